import Derived.Test.YtjcbhomfggjmhaaRt
namespace Go.Proofs.Ytjcbhomfggjmhaa.Mm
open Go.ChangeShapes Go.WideShapes Go.ChangeAt Go.RowKit Go.Maps
set_option linter.unusedVariables false
def BxC (w : World) (b : Nat) (x : Nx) : Prop := (w.cell? ⟨b, 0, none⟩ = some (.int .i64 x.op) ∧ w.cell? ⟨b, 1, none⟩ = some (.int .i64 x.core) ∧ w.cell? ⟨b, 2, none⟩ = some (.int .u64 (x.ad : Nat)) ∧ w.cell? ⟨b, 3, none⟩ = some (.int .i64 x.N) ∧ w.cell? ⟨b, 4, none⟩ = some (.int .u64 (x.v : Nat)))
theorem BxC.same {w w' : World} {b : Nat} {x : Nx} (h : BxC w b x) (he : w'.heap[b]? = w.heap[b]?) : BxC w' b x := by
  have hc : ∀ q, w'.cell? ⟨b, q, none⟩ = w.cell? ⟨b, q, none⟩ := fun q => World.cell?_of_block (w := w) he
  unfold BxC at h ⊢
  rw [hc, hc, hc, hc, hc]
  exact h
def argS (H : Wh) (x : Nx) : Array Value := #[.pointer (some ⟨H.ps, 0, none⟩), .pointer (some ⟨H.pr, 0, none⟩), .pointer (some ⟨H.pm, 0, none⟩), .pointer (some ⟨H.px, 0, none⟩), .agg #[.int .i64 x.op, .int .i64 x.core, .int .u64 (x.ad : Nat), .int .i64 x.N, .int .u64 (x.v : Nat)]]
/-- How it stands behind a step. -/
def StepEnd (w : World) (H : Wh) (V VR : Nat → Value) (S : Sd) (K : Nat) (M : Me) (x : Nx) (e : Ending) (w' : World) : Prop :=
  e = .returned (.bool true) ∧ (∃ V' VR' R' M', TwC w' H V' VR' (S.act M x) R' M' ∧ Eqv (S.act M x) R' ∧ BdR (K + 1) R' ∧ Cfg2 M') ∧ Below H.lo w w'
section
variable {w : World} {H : Wh} {V VR : Nat → Value} {S : Sd} {R : Rs} {M : Me} {K : Nat} {x : Nx}
set_option maxRecDepth 100000 in
set_option maxHeartbeats 4000000 in
theorem step_1 (h : TwC w H V VR S R M) (e : Eqv S R) (hb : Bd K S) (hr : BdR K R) (hK : K < 200) (hM : Cfg2 M) (hx : NxOk x) (hop : x.op = 1) : Calls Try.prog 12 (argS H x) w (StepEnd w H V VR S K M x) := by
  have HA : Hid (S.act M x = S.fetch x.core x.ad (x.N.tmod 2 != 0)) := Lib.hid (by unfold Sd.act; rw [if_pos hop])
  have hN : S.N < 1000000000 := by have := hb.n; omega
  have HN := Lib.hid hN
  have hb2 : Bd 200 S := ⟨by have := hb.n; omega, fun d hd => by have := hb.l d hd; omega, hb.y⟩
  have HBD := Lib.hid hb2
  have HBR := Lib.hid (hr.more (K' := 200) (by omega))
  have HBK := Lib.hid hr
  have E := Lib.hid e
  have HX := Lib.hid hx
  have HM2 := Lib.hid hM
  have HMC := Lib.hid hM.cfg
  have q1 : (x.op == 1) = true := by rw [hop]; decide
  have hbx : Below w.heap.size w (w.alloc (.cells #[.int .i64 x.op, .int .i64 x.core, .int .u64 (x.ad : Nat), .int .i64 x.N, .int .u64 (x.v : Nat)] 45)) := (Below.refl _ _).alloc (Nat.le_refl _) _
  have HB0 := Lib.hid hbx
  have HT0 := Lib.hid (h.past hbx)
  have HF0 : Hid (Fre (w.alloc (.cells #[.int .i64 x.op, .int .i64 x.core, .int .u64 (x.ad : Nat), .int .i64 x.N, .int .u64 (x.v : Nat)] 45)) H V VR S.n w.heap.size) := Lib.hid h.fresh
  have HC0 : Hid (BxC (w.alloc (.cells #[.int .i64 x.op, .int .i64 x.core, .int .u64 (x.ad : Nat), .int .i64 x.N, .int .u64 (x.v : Nat)] 45)) w.heap.size x) := Lib.hid ⟨World.cell?_alloc_at _ _ _ _ rfl, World.cell?_alloc_at _ _ _ _ rfl, World.cell?_alloc_at _ _ _ _ rfl, World.cell?_alloc_at _ _ _ _ rfl, World.cell?_alloc_at _ _ _ _ rfl⟩
  have HLL := Lib.hid h.lol
  clear h e hb hb2 hr hx hM hop hN hbx
  unfold argS
  go_enter Try.func12, Try.ntmps12
  obtain ⟨ah, hah⟩ : ∃ ah, (x.N.tmod 2 != 0) = ah := ⟨_, rfl⟩
  have HAH := Lib.hid hah
  have HP := Lib.hid (p_fetch HT0.out E.out HN.out HX.out ah)
  obtain ⟨c0, c1, c2, c3, c4⟩ := HC0.out
  go_upto_region 4 with (go_at_call 16; refine HP.out.mono ?_; rintro e w1 ⟨rfl, V1, ht, hbl, hfr⟩; obtain ⟨hf1, hh1⟩ := hfr _ HF0.out; have HT1 := Lib.hid ht; have HBL1 := Lib.hid hbl; have HC1 := Lib.hid (HC0.out.same hh1); have HD := Lib.hid (d_fetch HT1.out E.out.cf HBR.out HX.out ah); clear ht hbl hfr hf1 hh1)
  clear c0 c1 c2 c3 c4
  obtain ⟨c0, c1, c2, c3, c4⟩ := HC1.out
  clear HP
  go_wp2_with (go_at_call 29; refine HD.out.mono ?_; rintro e w2 ⟨rfl, VR2, ht, hbl, hfr⟩; have HT2 := Lib.hid ht; have HBL2 : Hid (Below H.lo w w2) := Lib.hid (((HB0.out.mono HLL.out).trans HBL1.out).trans hbl); clear ht hbl hfr)
  go_ret
  rw [← HAH.out] at HT2
  exact ⟨rfl, ⟨_, _, _, M, by rw [HA.out]; exact HT2.out, by rw [HA.out]; exact (E.out.fetch x.core x.ad _).1, HBK.out.rfetch x.core HX.out.k.2.2 _, HM2.out⟩, HBL2.out⟩
set_option maxRecDepth 100000 in
set_option maxHeartbeats 4000000 in
theorem step_2 (h : TwC w H V VR S R M) (e : Eqv S R) (hb : Bd K S) (hr : BdR K R) (hK : K < 200) (hM : Cfg2 M) (hx : NxOk x) (hop : x.op = 2) : Calls Try.prog 12 (argS H x) w (StepEnd w H V VR S K M x) := by
  have HA : Hid (S.act M x = S.ahead x.core x.ad) := Lib.hid (by unfold Sd.act; rw [if_neg (by rw [hop]; decide)]; rw [if_pos hop])
  have hN : S.N < 1000000000 := by have := hb.n; omega
  have HN := Lib.hid hN
  have hb2 : Bd 200 S := ⟨by have := hb.n; omega, fun d hd => by have := hb.l d hd; omega, hb.y⟩
  have HBD := Lib.hid hb2
  have HBR := Lib.hid (hr.more (K' := 200) (by omega))
  have HBK := Lib.hid hr
  have E := Lib.hid e
  have HX := Lib.hid hx
  have HM2 := Lib.hid hM
  have HMC := Lib.hid hM.cfg
  have q1 : (x.op == 1) = false := by rw [hop]; decide
  have q2 : (x.op == 2) = true := by rw [hop]; decide
  have hbx : Below w.heap.size w (w.alloc (.cells #[.int .i64 x.op, .int .i64 x.core, .int .u64 (x.ad : Nat), .int .i64 x.N, .int .u64 (x.v : Nat)] 45)) := (Below.refl _ _).alloc (Nat.le_refl _) _
  have HB0 := Lib.hid hbx
  have HT0 := Lib.hid (h.past hbx)
  have HF0 : Hid (Fre (w.alloc (.cells #[.int .i64 x.op, .int .i64 x.core, .int .u64 (x.ad : Nat), .int .i64 x.N, .int .u64 (x.v : Nat)] 45)) H V VR S.n w.heap.size) := Lib.hid h.fresh
  have HC0 : Hid (BxC (w.alloc (.cells #[.int .i64 x.op, .int .i64 x.core, .int .u64 (x.ad : Nat), .int .i64 x.N, .int .u64 (x.v : Nat)] 45)) w.heap.size x) := Lib.hid ⟨World.cell?_alloc_at _ _ _ _ rfl, World.cell?_alloc_at _ _ _ _ rfl, World.cell?_alloc_at _ _ _ _ rfl, World.cell?_alloc_at _ _ _ _ rfl, World.cell?_alloc_at _ _ _ _ rfl⟩
  have HLL := Lib.hid h.lol
  clear h e hb hb2 hr hx hM hop hN hbx
  unfold argS
  go_enter Try.func12, Try.ntmps12
  go_upto_region 7 with (fail)
  have HBd : Hid (Below w.heap.size w (w.alloc (.cells #[.int .i64 x.op, .int .i64 x.core, .int .u64 (x.ad : Nat), .int .i64 x.N, .int .u64 (x.v : Nat)] 45)).drew) := Lib.hid (below_drewN HB0.out 1)
  have HTd := Lib.hid (HT0.out.past (below_drewN (Below.refl _ _) 1))
  have HFd : Hid (Fre (w.alloc (.cells #[.int .i64 x.op, .int .i64 x.core, .int .u64 (x.ad : Nat), .int .i64 x.N, .int .u64 (x.v : Nat)] 45)).drew H V VR S.n w.heap.size) := Lib.hid (HF0.out.past (Nat.le_refl _))
  have HCd : Hid (BxC (w.alloc (.cells #[.int .i64 x.op, .int .i64 x.core, .int .u64 (x.ad : Nat), .int .i64 x.N, .int .u64 (x.v : Nat)] 45)).drew w.heap.size x) := Lib.hid (HC0.out.same rfl)
  have HTd : Hid (TwC (w.alloc (.cells #[.int .i64 x.op, .int .i64 x.core, .int .u64 (x.ad : Nat), .int .i64 x.N, .int .u64 (x.v : Nat)] 45)).drew H V VR S R M) := HTd
  refine wp_region_held_drew (S := fun w' => (w'.cell? ⟨w.heap.size, 0, none⟩ = some (.int .i64 x.op) ∧ w'.cell? ⟨w.heap.size, 1, none⟩ = some (.int .i64 x.core) ∧ w'.cell? ⟨w.heap.size, 2, none⟩ = some (.int .u64 (x.ad : Nat)) ∧ w'.cell? ⟨w.heap.size, 3, none⟩ = some (.int .i64 x.N) ∧ w'.cell? ⟨w.heap.size, 4, none⟩ = some (.int .u64 (x.v : Nat)))) (by kernel_rfl) HCd.out (fun hHeld => ?_)
  generalize (w.alloc (.cells #[.int .i64 x.op, .int .i64 x.core, .int .u64 (x.ad : Nat), .int .i64 x.N, .int .u64 (x.v : Nat)] 45)).drew = V0 at HBd HTd HFd HCd hHeld ⊢
  have HP := Lib.hid (p_ahead HTd.out E.out HN.out HX.out)
  clear HB0 HT0 HF0 HC0
  refine wpAnyH_take (i := 0) (oi := { dst := some 55, op := Go.Op.move (Go.Operand.tmp 0), type := 37, pos := "law.go:64", after := #[], guard := none }) (v := ?_) rfl (by kernel_rfl) (by kernel_rfl) (by kernel_rfl) (fun _ _ _ h => h) (Or.inl ⟨by rfl, ?_⟩) (by assumption) ?_
  rotate_left
  · (intro w0 hSw; (try dsimp only at hSw); go_split_ands; go_simp; with_reducible rfl)
  try simp only [Act.put, List.setIfInBounds_toArray, List.set_cons_zero, List.set_cons_succ]
  refine wpAnyH_take (i := 1) (oi := { dst := some 56, op := Go.Op.fieldAddr 45 (Go.Operand.tmp 9) 1, type := 0, pos := "law.go:64", after := #[], guard := none }) (v := ?_) rfl (by kernel_rfl) (by kernel_rfl) (by kernel_rfl) (fun _ _ _ h => h) (Or.inl ⟨by rfl, ?_⟩) (by assumption) ?_
  rotate_left
  · (intro w0 hSw; (try dsimp only at hSw); go_split_ands; go_simp; with_reducible rfl)
  try simp only [Act.put, List.setIfInBounds_toArray, List.set_cons_zero, List.set_cons_succ]
  refine wpAnyH_take (i := 2) (oi := { dst := some 57, op := Go.Op.load 3 (Go.Operand.tmp 56), type := 3, pos := "law.go:64", after := #[{ on := 1, ground := Go.Ground.data }], guard := none }) (v := ?_) rfl (by kernel_rfl) (by kernel_rfl) (by kernel_rfl) (fun _ _ _ h => h) (Or.inl ⟨by rfl, ?_⟩) (by assumption) ?_
  rotate_left
  · (intro w0 hSw; (try dsimp only at hSw); go_split_ands; go_simp; with_reducible rfl)
  try simp only [Act.put, List.setIfInBounds_toArray, List.set_cons_zero, List.set_cons_succ]
  refine wpAnyH_take (i := 3) (oi := { dst := some 58, op := Go.Op.fieldAddr 45 (Go.Operand.tmp 9) 2, type := 0, pos := "law.go:64", after := #[], guard := none }) (v := ?_) rfl (by kernel_rfl) (by kernel_rfl) (by kernel_rfl) (fun _ _ _ h => h) (Or.inl ⟨by rfl, ?_⟩) (by assumption) ?_
  rotate_left
  · (intro w0 hSw; (try dsimp only at hSw); go_split_ands; go_simp; with_reducible rfl)
  try simp only [Act.put, List.setIfInBounds_toArray, List.set_cons_zero, List.set_cons_succ]
  refine wpAnyH_take (i := 4) (oi := { dst := some 59, op := Go.Op.load 35 (Go.Operand.tmp 58), type := 35, pos := "law.go:64", after := #[{ on := 3, ground := Go.Ground.data }], guard := none }) (v := ?_) rfl (by kernel_rfl) (by kernel_rfl) (by kernel_rfl) (fun _ _ _ h => h) (Or.inl ⟨by rfl, ?_⟩) (by assumption) ?_
  rotate_left
  · (intro w0 hSw; (try dsimp only at hSw); go_split_ands; go_simp; with_reducible rfl)
  try simp only [Act.put, List.setIfInBounds_toArray, List.set_cons_zero, List.set_cons_succ]
  refine wpAnyH_take (i := 6) (oi := { dst := some 61, op := Go.Op.move (Go.Operand.tmp 1), type := 40, pos := "law.go:64", after := #[], guard := none }) (v := ?_) rfl (by kernel_rfl) (by kernel_rfl) (by kernel_rfl) (fun _ _ _ h => h) (Or.inl ⟨by rfl, ?_⟩) (by assumption) ?_
  rotate_left
  · (intro w0 hSw; (try dsimp only at hSw); go_split_ands; go_simp; with_reducible rfl)
  try simp only [Act.put, List.setIfInBounds_toArray, List.set_cons_zero, List.set_cons_succ]
  refine wpAnyH_take (i := 7) (oi := { dst := some 62, op := Go.Op.fieldAddr 45 (Go.Operand.tmp 9) 1, type := 0, pos := "law.go:64", after := #[], guard := none }) (v := ?_) rfl (by kernel_rfl) (by kernel_rfl) (by kernel_rfl) (fun _ _ _ h => h) (Or.inl ⟨by rfl, ?_⟩) (by assumption) ?_
  rotate_left
  · (intro w0 hSw; (try dsimp only at hSw); go_split_ands; go_simp; with_reducible rfl)
  try simp only [Act.put, List.setIfInBounds_toArray, List.set_cons_zero, List.set_cons_succ]
  refine wpAnyH_take (i := 8) (oi := { dst := some 63, op := Go.Op.load 3 (Go.Operand.tmp 62), type := 3, pos := "law.go:64", after := #[{ on := 7, ground := Go.Ground.data }], guard := none }) (v := ?_) rfl (by kernel_rfl) (by kernel_rfl) (by kernel_rfl) (fun _ _ _ h => h) (Or.inl ⟨by rfl, ?_⟩) (by assumption) ?_
  rotate_left
  · (intro w0 hSw; (try dsimp only at hSw); go_split_ands; go_simp; with_reducible rfl)
  try simp only [Act.put, List.setIfInBounds_toArray, List.set_cons_zero, List.set_cons_succ]
  refine wpAnyH_take (i := 9) (oi := { dst := some 64, op := Go.Op.fieldAddr 45 (Go.Operand.tmp 9) 2, type := 0, pos := "law.go:64", after := #[], guard := none }) (v := ?_) rfl (by kernel_rfl) (by kernel_rfl) (by kernel_rfl) (fun _ _ _ h => h) (Or.inl ⟨by rfl, ?_⟩) (by assumption) ?_
  rotate_left
  · (intro w0 hSw; (try dsimp only at hSw); go_split_ands; go_simp; with_reducible rfl)
  try simp only [Act.put, List.setIfInBounds_toArray, List.set_cons_zero, List.set_cons_succ]
  refine wpAnyH_take (i := 10) (oi := { dst := some 65, op := Go.Op.load 35 (Go.Operand.tmp 64), type := 35, pos := "law.go:64", after := #[{ on := 9, ground := Go.Ground.data }], guard := none }) (v := ?_) rfl (by kernel_rfl) (by kernel_rfl) (by kernel_rfl) (fun _ _ _ h => h) (Or.inl ⟨by rfl, ?_⟩) (by assumption) ?_
  rotate_left
  · (intro w0 hSw; (try dsimp only at hSw); go_split_ands; go_simp; with_reducible rfl)
  try simp only [Act.put, List.setIfInBounds_toArray, List.set_cons_zero, List.set_cons_succ]
  refine wpAnyH_ready (rs := [5]) (by kernel_rfl) (by simp) ?_
  refine AllReadyH.cons (o := { dst := some 60, op := Go.Op.call { callee := Go.Callee.value (Go.Operand.func 30), args := #[Go.Operand.tmp 55, Go.Operand.tmp 57, Go.Operand.tmp 59], argTypes := #[37, 3, 35] }, type := 26, pos := "law.go:64", after := #[{ on := 0, ground := Go.Ground.data }, { on := 2, ground := Go.Ground.data }, { on := 4, ground := Go.Ground.data }], guard := none }) rfl (fun K hK => ?_) AllReadyH.nil
  go_simp
  go_at_call 30
  refine HP.out.mono ?_
  rintro e w1 ⟨rfl, V1, ht, hbl, hfr⟩
  obtain ⟨hf1, hh1⟩ := hfr _ HFd.out
  have HT1 := Lib.hid ht
  have HBL1 := Lib.hid hbl
  have HF1 := Lib.hid hf1
  have HC1 := Lib.hid (HCd.out.same hh1)
  have HD := Lib.hid (d_ahead HT1.out E.out.cf HBR.out HX.out)
  clear ht hbl hfr hf1 hh1 HP
  refine hK.out _ _ HC1.out (fun hHeld => ?_)
  clear hK K
  try simp only [Act.put, List.setIfInBounds_toArray, List.set_cons_zero, List.set_cons_succ]
  refine wpAnyH_ready (rs := [11]) (by kernel_rfl) (by simp) ?_
  refine AllReadyH.cons (o := { dst := some 66, op := Go.Op.call { callee := Go.Callee.value (Go.Operand.func 31), args := #[Go.Operand.tmp 61, Go.Operand.tmp 63, Go.Operand.tmp 65], argTypes := #[40, 3, 35] }, type := 3, pos := "law.go:64", after := #[{ on := 6, ground := Go.Ground.data }, { on := 8, ground := Go.Ground.data }, { on := 10, ground := Go.Ground.data }, { on := 5, ground := Go.Ground.chain }], guard := none }) rfl (fun K hK => ?_) AllReadyH.nil
  go_simp
  go_at_call 31
  refine HD.out.mono ?_
  rintro e w2 ⟨rfl, VR2, ht, hbl, hfr⟩
  obtain ⟨hf2, hh2⟩ := hfr _ HF1.out
  have HT2 := Lib.hid ht
  have HBL2 : Hid (Below H.lo w w2) := Lib.hid (((HBd.out.mono HLL.out).trans HBL1.out).trans hbl)
  have HC2 := Lib.hid (HC1.out.same hh2)
  clear ht hbl hfr hf2 hh2 HD
  refine hK.out _ _ HC2.out (fun hHeld => ?_)
  clear hK K
  try simp only [Act.put, List.setIfInBounds_toArray, List.set_cons_zero, List.set_cons_succ]
  refine wpAnyH_take (i := 12) (oi := { dst := some 67, op := Go.Op.binOp Go.BinOp.eql 3 (Go.Operand.tmp 60) (Go.Operand.tmp 66) 3, type := 4, pos := "law.go:64", after := #[{ on := 5, ground := Go.Ground.data }, { on := 11, ground := Go.Ground.data }], guard := none }) (v := .bool true) rfl (by kernel_rfl) (by kernel_rfl) (by kernel_rfl) (fun _ _ _ h => h) (Or.inl ⟨by rfl, ?_⟩) (by assumption) ?_
  · (intro w0 hSw; (try dsimp only at hSw); go_split_ands; go_simp)
  try simp only [Act.put, List.setIfInBounds_toArray, List.set_cons_zero, List.set_cons_succ]
  refine wpAnyH_take (i := 13) (oi := { dst := some 10, op := Go.Op.assign (Go.Operand.tmp 67), type := 4, pos := "law.go:64", after := #[{ on := 12, ground := Go.Ground.data }, { on := 11, ground := Go.Ground.chain }, { on := 0, ground := Go.Ground.phase }, { on := 1, ground := Go.Ground.phase }, { on := 2, ground := Go.Ground.phase }, { on := 3, ground := Go.Ground.phase }, { on := 4, ground := Go.Ground.phase }, { on := 5, ground := Go.Ground.phase }, { on := 6, ground := Go.Ground.phase }, { on := 7, ground := Go.Ground.phase }, { on := 8, ground := Go.Ground.phase }, { on := 9, ground := Go.Ground.phase }, { on := 10, ground := Go.Ground.phase }, { on := 11, ground := Go.Ground.phase }, { on := 12, ground := Go.Ground.phase }], guard := none }) (v := ?_) rfl (by kernel_rfl) (by kernel_rfl) (by kernel_rfl) (fun _ _ _ h => h) (Or.inl ⟨by rfl, ?_⟩) (by assumption) ?_
  rotate_left
  · (intro w0 hSw; (try dsimp only at hSw); go_split_ands; go_simp; with_reducible rfl)
  try simp only [Act.put, List.setIfInBounds_toArray, List.set_cons_zero, List.set_cons_succ]
  refine wpAnyH_done (by kernel_rfl) ?_ _
  clear hHeld
  go_wp2
  all_goals
    go_ret
    exact ⟨rfl, ⟨_, _, _, M, by rw [HA.out]; exact HT2.out, by rw [HA.out]; exact E.out.ahead x.core x.ad, HBK.out.rahead x.core HX.out.k.2.2, HM2.out⟩, HBL2.out⟩
set_option maxRecDepth 100000 in
set_option maxHeartbeats 4000000 in
theorem step_3 (h : TwC w H V VR S R M) (e : Eqv S R) (hb : Bd K S) (hr : BdR K R) (hK : K < 200) (hM : Cfg2 M) (hx : NxOk x) (hop : x.op = 3) : Calls Try.prog 12 (argS H x) w (StepEnd w H V VR S K M x) := by
  have HA : Hid (S.act M x = S.refill x.core x.ad) := Lib.hid (by unfold Sd.act; rw [if_neg (by rw [hop]; decide)]; rw [if_neg (by rw [hop]; decide)]; rw [if_pos hop])
  have hN : S.N < 1000000000 := by have := hb.n; omega
  have HN := Lib.hid hN
  have hb2 : Bd 200 S := ⟨by have := hb.n; omega, fun d hd => by have := hb.l d hd; omega, hb.y⟩
  have HBD := Lib.hid hb2
  have HBR := Lib.hid (hr.more (K' := 200) (by omega))
  have HBK := Lib.hid hr
  have E := Lib.hid e
  have HX := Lib.hid hx
  have HM2 := Lib.hid hM
  have HMC := Lib.hid hM.cfg
  have q1 : (x.op == 1) = false := by rw [hop]; decide
  have q2 : (x.op == 2) = false := by rw [hop]; decide
  have q3 : (x.op == 3) = true := by rw [hop]; decide
  have hbx : Below w.heap.size w (w.alloc (.cells #[.int .i64 x.op, .int .i64 x.core, .int .u64 (x.ad : Nat), .int .i64 x.N, .int .u64 (x.v : Nat)] 45)) := (Below.refl _ _).alloc (Nat.le_refl _) _
  have HB0 := Lib.hid hbx
  have HT0 := Lib.hid (h.past hbx)
  have HF0 : Hid (Fre (w.alloc (.cells #[.int .i64 x.op, .int .i64 x.core, .int .u64 (x.ad : Nat), .int .i64 x.N, .int .u64 (x.v : Nat)] 45)) H V VR S.n w.heap.size) := Lib.hid h.fresh
  have HC0 : Hid (BxC (w.alloc (.cells #[.int .i64 x.op, .int .i64 x.core, .int .u64 (x.ad : Nat), .int .i64 x.N, .int .u64 (x.v : Nat)] 45)) w.heap.size x) := Lib.hid ⟨World.cell?_alloc_at _ _ _ _ rfl, World.cell?_alloc_at _ _ _ _ rfl, World.cell?_alloc_at _ _ _ _ rfl, World.cell?_alloc_at _ _ _ _ rfl, World.cell?_alloc_at _ _ _ _ rfl⟩
  have HLL := Lib.hid h.lol
  clear h e hb hb2 hr hx hM hop hN hbx
  unfold argS
  go_enter Try.func12, Try.ntmps12
  go_upto_region 9 with (fail)
  have HBd : Hid (Below w.heap.size w (w.alloc (.cells #[.int .i64 x.op, .int .i64 x.core, .int .u64 (x.ad : Nat), .int .i64 x.N, .int .u64 (x.v : Nat)] 45)).drew) := Lib.hid (below_drewN HB0.out 1)
  have HTd := Lib.hid (HT0.out.past (below_drewN (Below.refl _ _) 1))
  have HFd : Hid (Fre (w.alloc (.cells #[.int .i64 x.op, .int .i64 x.core, .int .u64 (x.ad : Nat), .int .i64 x.N, .int .u64 (x.v : Nat)] 45)).drew H V VR S.n w.heap.size) := Lib.hid (HF0.out.past (Nat.le_refl _))
  have HCd : Hid (BxC (w.alloc (.cells #[.int .i64 x.op, .int .i64 x.core, .int .u64 (x.ad : Nat), .int .i64 x.N, .int .u64 (x.v : Nat)] 45)).drew w.heap.size x) := Lib.hid (HC0.out.same rfl)
  have HTd : Hid (TwC (w.alloc (.cells #[.int .i64 x.op, .int .i64 x.core, .int .u64 (x.ad : Nat), .int .i64 x.N, .int .u64 (x.v : Nat)] 45)).drew H V VR S R M) := HTd
  refine wp_region_held_drew (S := fun w' => (w'.cell? ⟨w.heap.size, 0, none⟩ = some (.int .i64 x.op) ∧ w'.cell? ⟨w.heap.size, 1, none⟩ = some (.int .i64 x.core) ∧ w'.cell? ⟨w.heap.size, 2, none⟩ = some (.int .u64 (x.ad : Nat)) ∧ w'.cell? ⟨w.heap.size, 3, none⟩ = some (.int .i64 x.N) ∧ w'.cell? ⟨w.heap.size, 4, none⟩ = some (.int .u64 (x.v : Nat)))) (by kernel_rfl) HCd.out (fun hHeld => ?_)
  generalize (w.alloc (.cells #[.int .i64 x.op, .int .i64 x.core, .int .u64 (x.ad : Nat), .int .i64 x.N, .int .u64 (x.v : Nat)] 45)).drew = V0 at HBd HTd HFd HCd hHeld ⊢
  have HP := Lib.hid (p_refill HTd.out E.out HN.out HX.out)
  clear HB0 HT0 HF0 HC0
  refine wpAnyH_take (i := 0) (oi := { dst := some 70, op := Go.Op.move (Go.Operand.tmp 0), type := 37, pos := "law.go:66", after := #[], guard := none }) (v := ?_) rfl (by kernel_rfl) (by kernel_rfl) (by kernel_rfl) (fun _ _ _ h => h) (Or.inl ⟨by rfl, ?_⟩) (by assumption) ?_
  rotate_left
  · (intro w0 hSw; (try dsimp only at hSw); go_split_ands; go_simp; with_reducible rfl)
  try simp only [Act.put, List.setIfInBounds_toArray, List.set_cons_zero, List.set_cons_succ]
  refine wpAnyH_take (i := 1) (oi := { dst := some 71, op := Go.Op.fieldAddr 45 (Go.Operand.tmp 9) 1, type := 0, pos := "law.go:66", after := #[], guard := none }) (v := ?_) rfl (by kernel_rfl) (by kernel_rfl) (by kernel_rfl) (fun _ _ _ h => h) (Or.inl ⟨by rfl, ?_⟩) (by assumption) ?_
  rotate_left
  · (intro w0 hSw; (try dsimp only at hSw); go_split_ands; go_simp; with_reducible rfl)
  try simp only [Act.put, List.setIfInBounds_toArray, List.set_cons_zero, List.set_cons_succ]
  refine wpAnyH_take (i := 2) (oi := { dst := some 72, op := Go.Op.load 3 (Go.Operand.tmp 71), type := 3, pos := "law.go:66", after := #[{ on := 1, ground := Go.Ground.data }], guard := none }) (v := ?_) rfl (by kernel_rfl) (by kernel_rfl) (by kernel_rfl) (fun _ _ _ h => h) (Or.inl ⟨by rfl, ?_⟩) (by assumption) ?_
  rotate_left
  · (intro w0 hSw; (try dsimp only at hSw); go_split_ands; go_simp; with_reducible rfl)
  try simp only [Act.put, List.setIfInBounds_toArray, List.set_cons_zero, List.set_cons_succ]
  refine wpAnyH_take (i := 3) (oi := { dst := some 73, op := Go.Op.fieldAddr 45 (Go.Operand.tmp 9) 2, type := 0, pos := "law.go:66", after := #[], guard := none }) (v := ?_) rfl (by kernel_rfl) (by kernel_rfl) (by kernel_rfl) (fun _ _ _ h => h) (Or.inl ⟨by rfl, ?_⟩) (by assumption) ?_
  rotate_left
  · (intro w0 hSw; (try dsimp only at hSw); go_split_ands; go_simp; with_reducible rfl)
  try simp only [Act.put, List.setIfInBounds_toArray, List.set_cons_zero, List.set_cons_succ]
  refine wpAnyH_take (i := 4) (oi := { dst := some 74, op := Go.Op.load 35 (Go.Operand.tmp 73), type := 35, pos := "law.go:66", after := #[{ on := 3, ground := Go.Ground.data }], guard := none }) (v := ?_) rfl (by kernel_rfl) (by kernel_rfl) (by kernel_rfl) (fun _ _ _ h => h) (Or.inl ⟨by rfl, ?_⟩) (by assumption) ?_
  rotate_left
  · (intro w0 hSw; (try dsimp only at hSw); go_split_ands; go_simp; with_reducible rfl)
  try simp only [Act.put, List.setIfInBounds_toArray, List.set_cons_zero, List.set_cons_succ]
  refine wpAnyH_take (i := 6) (oi := { dst := some 76, op := Go.Op.move (Go.Operand.tmp 1), type := 40, pos := "law.go:66", after := #[], guard := none }) (v := ?_) rfl (by kernel_rfl) (by kernel_rfl) (by kernel_rfl) (fun _ _ _ h => h) (Or.inl ⟨by rfl, ?_⟩) (by assumption) ?_
  rotate_left
  · (intro w0 hSw; (try dsimp only at hSw); go_split_ands; go_simp; with_reducible rfl)
  try simp only [Act.put, List.setIfInBounds_toArray, List.set_cons_zero, List.set_cons_succ]
  refine wpAnyH_take (i := 7) (oi := { dst := some 77, op := Go.Op.fieldAddr 45 (Go.Operand.tmp 9) 1, type := 0, pos := "law.go:66", after := #[], guard := none }) (v := ?_) rfl (by kernel_rfl) (by kernel_rfl) (by kernel_rfl) (fun _ _ _ h => h) (Or.inl ⟨by rfl, ?_⟩) (by assumption) ?_
  rotate_left
  · (intro w0 hSw; (try dsimp only at hSw); go_split_ands; go_simp; with_reducible rfl)
  try simp only [Act.put, List.setIfInBounds_toArray, List.set_cons_zero, List.set_cons_succ]
  refine wpAnyH_take (i := 8) (oi := { dst := some 78, op := Go.Op.load 3 (Go.Operand.tmp 77), type := 3, pos := "law.go:66", after := #[{ on := 7, ground := Go.Ground.data }], guard := none }) (v := ?_) rfl (by kernel_rfl) (by kernel_rfl) (by kernel_rfl) (fun _ _ _ h => h) (Or.inl ⟨by rfl, ?_⟩) (by assumption) ?_
  rotate_left
  · (intro w0 hSw; (try dsimp only at hSw); go_split_ands; go_simp; with_reducible rfl)
  try simp only [Act.put, List.setIfInBounds_toArray, List.set_cons_zero, List.set_cons_succ]
  refine wpAnyH_take (i := 9) (oi := { dst := some 79, op := Go.Op.fieldAddr 45 (Go.Operand.tmp 9) 2, type := 0, pos := "law.go:66", after := #[], guard := none }) (v := ?_) rfl (by kernel_rfl) (by kernel_rfl) (by kernel_rfl) (fun _ _ _ h => h) (Or.inl ⟨by rfl, ?_⟩) (by assumption) ?_
  rotate_left
  · (intro w0 hSw; (try dsimp only at hSw); go_split_ands; go_simp; with_reducible rfl)
  try simp only [Act.put, List.setIfInBounds_toArray, List.set_cons_zero, List.set_cons_succ]
  refine wpAnyH_take (i := 10) (oi := { dst := some 80, op := Go.Op.load 35 (Go.Operand.tmp 79), type := 35, pos := "law.go:66", after := #[{ on := 9, ground := Go.Ground.data }], guard := none }) (v := ?_) rfl (by kernel_rfl) (by kernel_rfl) (by kernel_rfl) (fun _ _ _ h => h) (Or.inl ⟨by rfl, ?_⟩) (by assumption) ?_
  rotate_left
  · (intro w0 hSw; (try dsimp only at hSw); go_split_ands; go_simp; with_reducible rfl)
  try simp only [Act.put, List.setIfInBounds_toArray, List.set_cons_zero, List.set_cons_succ]
  refine wpAnyH_ready (rs := [5]) (by kernel_rfl) (by simp) ?_
  refine AllReadyH.cons (o := { dst := some 75, op := Go.Op.call { callee := Go.Callee.value (Go.Operand.func 14), args := #[Go.Operand.tmp 70, Go.Operand.tmp 72, Go.Operand.tmp 74], argTypes := #[37, 3, 35] }, type := 26, pos := "law.go:66", after := #[{ on := 0, ground := Go.Ground.data }, { on := 2, ground := Go.Ground.data }, { on := 4, ground := Go.Ground.data }], guard := none }) rfl (fun K hK => ?_) AllReadyH.nil
  go_simp
  go_at_call 14
  refine HP.out.mono ?_
  rintro e w1 ⟨rfl, V1, ht, hbl, hfr⟩
  obtain ⟨hf1, hh1⟩ := hfr _ HFd.out
  have HT1 := Lib.hid ht
  have HBL1 := Lib.hid hbl
  have HF1 := Lib.hid hf1
  have HC1 := Lib.hid (HCd.out.same hh1)
  have HD := Lib.hid (d_refill HT1.out E.out.cf HBR.out HX.out)
  clear ht hbl hfr hf1 hh1 HP
  refine hK.out _ _ HC1.out (fun hHeld => ?_)
  clear hK K
  try simp only [Act.put, List.setIfInBounds_toArray, List.set_cons_zero, List.set_cons_succ]
  refine wpAnyH_ready (rs := [11]) (by kernel_rfl) (by simp) ?_
  refine AllReadyH.cons (o := { dst := some 81, op := Go.Op.call { callee := Go.Callee.value (Go.Operand.func 32), args := #[Go.Operand.tmp 76, Go.Operand.tmp 78, Go.Operand.tmp 80], argTypes := #[40, 3, 35] }, type := 3, pos := "law.go:66", after := #[{ on := 6, ground := Go.Ground.data }, { on := 8, ground := Go.Ground.data }, { on := 10, ground := Go.Ground.data }, { on := 5, ground := Go.Ground.chain }], guard := none }) rfl (fun K hK => ?_) AllReadyH.nil
  go_simp
  go_at_call 32
  refine HD.out.mono ?_
  rintro e w2 ⟨rfl, VR2, ht, hbl, hfr⟩
  obtain ⟨hf2, hh2⟩ := hfr _ HF1.out
  have HT2 := Lib.hid ht
  have HBL2 : Hid (Below H.lo w w2) := Lib.hid (((HBd.out.mono HLL.out).trans HBL1.out).trans hbl)
  have HC2 := Lib.hid (HC1.out.same hh2)
  clear ht hbl hfr hf2 hh2 HD
  refine hK.out _ _ HC2.out (fun hHeld => ?_)
  clear hK K
  try simp only [Act.put, List.setIfInBounds_toArray, List.set_cons_zero, List.set_cons_succ]
  refine wpAnyH_take (i := 12) (oi := { dst := some 82, op := Go.Op.binOp Go.BinOp.eql 3 (Go.Operand.tmp 75) (Go.Operand.tmp 81) 3, type := 4, pos := "law.go:66", after := #[{ on := 5, ground := Go.Ground.data }, { on := 11, ground := Go.Ground.data }], guard := none }) (v := .bool true) rfl (by kernel_rfl) (by kernel_rfl) (by kernel_rfl) (fun _ _ _ h => h) (Or.inl ⟨by rfl, ?_⟩) (by assumption) ?_
  · (intro w0 hSw; (try dsimp only at hSw); go_split_ands; go_simp)
  try simp only [Act.put, List.setIfInBounds_toArray, List.set_cons_zero, List.set_cons_succ]
  refine wpAnyH_take (i := 13) (oi := { dst := some 10, op := Go.Op.assign (Go.Operand.tmp 82), type := 4, pos := "law.go:66", after := #[{ on := 12, ground := Go.Ground.data }, { on := 11, ground := Go.Ground.chain }, { on := 0, ground := Go.Ground.phase }, { on := 1, ground := Go.Ground.phase }, { on := 2, ground := Go.Ground.phase }, { on := 3, ground := Go.Ground.phase }, { on := 4, ground := Go.Ground.phase }, { on := 5, ground := Go.Ground.phase }, { on := 6, ground := Go.Ground.phase }, { on := 7, ground := Go.Ground.phase }, { on := 8, ground := Go.Ground.phase }, { on := 9, ground := Go.Ground.phase }, { on := 10, ground := Go.Ground.phase }, { on := 11, ground := Go.Ground.phase }, { on := 12, ground := Go.Ground.phase }], guard := none }) (v := ?_) rfl (by kernel_rfl) (by kernel_rfl) (by kernel_rfl) (fun _ _ _ h => h) (Or.inl ⟨by rfl, ?_⟩) (by assumption) ?_
  rotate_left
  · (intro w0 hSw; (try dsimp only at hSw); go_split_ands; go_simp; with_reducible rfl)
  try simp only [Act.put, List.setIfInBounds_toArray, List.set_cons_zero, List.set_cons_succ]
  refine wpAnyH_done (by kernel_rfl) ?_ _
  clear hHeld
  go_wp2
  all_goals
    go_ret
    exact ⟨rfl, ⟨_, _, _, M, by rw [HA.out]; exact HT2.out, by rw [HA.out]; exact E.out.refill x.core x.ad, HBK.out.refill x.core HX.out.k.2.2, HM2.out⟩, HBL2.out⟩
set_option maxRecDepth 100000 in
set_option maxHeartbeats 4000000 in
theorem step_4 (h : TwC w H V VR S R M) (e : Eqv S R) (hb : Bd K S) (hr : BdR K R) (hK : K < 200) (hM : Cfg2 M) (hx : NxOk x) (hop : x.op = 4) : Calls Try.prog 12 (argS H x) w (StepEnd w H V VR S K M x) := by
  have HA : Hid (S.act M x = { S with C := upd S.C x.core x.ad none }) := Lib.hid (by unfold Sd.act; rw [if_neg (by rw [hop]; decide)]; rw [if_neg (by rw [hop]; decide)]; rw [if_neg (by rw [hop]; decide)]; rw [if_pos hop])
  have hN : S.N < 1000000000 := by have := hb.n; omega
  have HN := Lib.hid hN
  have hb2 : Bd 200 S := ⟨by have := hb.n; omega, fun d hd => by have := hb.l d hd; omega, hb.y⟩
  have HBD := Lib.hid hb2
  have HBR := Lib.hid (hr.more (K' := 200) (by omega))
  have HBK := Lib.hid hr
  have E := Lib.hid e
  have HX := Lib.hid hx
  have HM2 := Lib.hid hM
  have HMC := Lib.hid hM.cfg
  have q1 : (x.op == 1) = false := by rw [hop]; decide
  have q2 : (x.op == 2) = false := by rw [hop]; decide
  have q3 : (x.op == 3) = false := by rw [hop]; decide
  have q4 : (x.op == 4) = true := by rw [hop]; decide
  have hbx : Below w.heap.size w (w.alloc (.cells #[.int .i64 x.op, .int .i64 x.core, .int .u64 (x.ad : Nat), .int .i64 x.N, .int .u64 (x.v : Nat)] 45)) := (Below.refl _ _).alloc (Nat.le_refl _) _
  have HB0 := Lib.hid hbx
  have HT0 := Lib.hid (h.past hbx)
  have HF0 : Hid (Fre (w.alloc (.cells #[.int .i64 x.op, .int .i64 x.core, .int .u64 (x.ad : Nat), .int .i64 x.N, .int .u64 (x.v : Nat)] 45)) H V VR S.n w.heap.size) := Lib.hid h.fresh
  have HC0 : Hid (BxC (w.alloc (.cells #[.int .i64 x.op, .int .i64 x.core, .int .u64 (x.ad : Nat), .int .i64 x.N, .int .u64 (x.v : Nat)] 45)) w.heap.size x) := Lib.hid ⟨World.cell?_alloc_at _ _ _ _ rfl, World.cell?_alloc_at _ _ _ _ rfl, World.cell?_alloc_at _ _ _ _ rfl, World.cell?_alloc_at _ _ _ _ rfl, World.cell?_alloc_at _ _ _ _ rfl⟩
  have HLL := Lib.hid h.lol
  clear h e hb hb2 hr hx hM hop hN hbx
  unfold argS
  go_enter Try.func12, Try.ntmps12
  go_upto_region 11 with (fail)
  have HBd : Hid (Below w.heap.size w (w.alloc (.cells #[.int .i64 x.op, .int .i64 x.core, .int .u64 (x.ad : Nat), .int .i64 x.N, .int .u64 (x.v : Nat)] 45)).drew) := Lib.hid (below_drewN HB0.out 1)
  have HTd := Lib.hid (HT0.out.past (below_drewN (Below.refl _ _) 1))
  have HFd : Hid (Fre (w.alloc (.cells #[.int .i64 x.op, .int .i64 x.core, .int .u64 (x.ad : Nat), .int .i64 x.N, .int .u64 (x.v : Nat)] 45)).drew H V VR S.n w.heap.size) := Lib.hid (HF0.out.past (Nat.le_refl _))
  have HCd : Hid (BxC (w.alloc (.cells #[.int .i64 x.op, .int .i64 x.core, .int .u64 (x.ad : Nat), .int .i64 x.N, .int .u64 (x.v : Nat)] 45)).drew w.heap.size x) := Lib.hid (HC0.out.same rfl)
  have HTd : Hid (TwC (w.alloc (.cells #[.int .i64 x.op, .int .i64 x.core, .int .u64 (x.ad : Nat), .int .i64 x.N, .int .u64 (x.v : Nat)] 45)).drew H V VR S R M) := HTd
  refine wp_region_held_drew (S := fun w' => (w'.cell? ⟨w.heap.size, 0, none⟩ = some (.int .i64 x.op) ∧ w'.cell? ⟨w.heap.size, 1, none⟩ = some (.int .i64 x.core) ∧ w'.cell? ⟨w.heap.size, 2, none⟩ = some (.int .u64 (x.ad : Nat)) ∧ w'.cell? ⟨w.heap.size, 3, none⟩ = some (.int .i64 x.N) ∧ w'.cell? ⟨w.heap.size, 4, none⟩ = some (.int .u64 (x.v : Nat)))) (by kernel_rfl) HCd.out (fun hHeld => ?_)
  generalize (w.alloc (.cells #[.int .i64 x.op, .int .i64 x.core, .int .u64 (x.ad : Nat), .int .i64 x.N, .int .u64 (x.v : Nat)] 45)).drew = V0 at HBd HTd HFd HCd hHeld ⊢
  have HP := Lib.hid (p_evict HTd.out E.out HX.out)
  clear HB0 HT0 HF0 HC0
  refine wpAnyH_take (i := 0) (oi := { dst := some 85, op := Go.Op.move (Go.Operand.tmp 0), type := 37, pos := "law.go:68", after := #[], guard := none }) (v := ?_) rfl (by kernel_rfl) (by kernel_rfl) (by kernel_rfl) (fun _ _ _ h => h) (Or.inl ⟨by rfl, ?_⟩) (by assumption) ?_
  rotate_left
  · (intro w0 hSw; (try dsimp only at hSw); go_split_ands; go_simp; with_reducible rfl)
  try simp only [Act.put, List.setIfInBounds_toArray, List.set_cons_zero, List.set_cons_succ]
  refine wpAnyH_take (i := 1) (oi := { dst := some 86, op := Go.Op.fieldAddr 45 (Go.Operand.tmp 9) 1, type := 0, pos := "law.go:68", after := #[], guard := none }) (v := ?_) rfl (by kernel_rfl) (by kernel_rfl) (by kernel_rfl) (fun _ _ _ h => h) (Or.inl ⟨by rfl, ?_⟩) (by assumption) ?_
  rotate_left
  · (intro w0 hSw; (try dsimp only at hSw); go_split_ands; go_simp; with_reducible rfl)
  try simp only [Act.put, List.setIfInBounds_toArray, List.set_cons_zero, List.set_cons_succ]
  refine wpAnyH_take (i := 2) (oi := { dst := some 87, op := Go.Op.load 3 (Go.Operand.tmp 86), type := 3, pos := "law.go:68", after := #[{ on := 1, ground := Go.Ground.data }], guard := none }) (v := ?_) rfl (by kernel_rfl) (by kernel_rfl) (by kernel_rfl) (fun _ _ _ h => h) (Or.inl ⟨by rfl, ?_⟩) (by assumption) ?_
  rotate_left
  · (intro w0 hSw; (try dsimp only at hSw); go_split_ands; go_simp; with_reducible rfl)
  try simp only [Act.put, List.setIfInBounds_toArray, List.set_cons_zero, List.set_cons_succ]
  refine wpAnyH_take (i := 3) (oi := { dst := some 88, op := Go.Op.fieldAddr 45 (Go.Operand.tmp 9) 2, type := 0, pos := "law.go:68", after := #[], guard := none }) (v := ?_) rfl (by kernel_rfl) (by kernel_rfl) (by kernel_rfl) (fun _ _ _ h => h) (Or.inl ⟨by rfl, ?_⟩) (by assumption) ?_
  rotate_left
  · (intro w0 hSw; (try dsimp only at hSw); go_split_ands; go_simp; with_reducible rfl)
  try simp only [Act.put, List.setIfInBounds_toArray, List.set_cons_zero, List.set_cons_succ]
  refine wpAnyH_take (i := 4) (oi := { dst := some 89, op := Go.Op.load 35 (Go.Operand.tmp 88), type := 35, pos := "law.go:68", after := #[{ on := 3, ground := Go.Ground.data }], guard := none }) (v := ?_) rfl (by kernel_rfl) (by kernel_rfl) (by kernel_rfl) (fun _ _ _ h => h) (Or.inl ⟨by rfl, ?_⟩) (by assumption) ?_
  rotate_left
  · (intro w0 hSw; (try dsimp only at hSw); go_split_ands; go_simp; with_reducible rfl)
  try simp only [Act.put, List.setIfInBounds_toArray, List.set_cons_zero, List.set_cons_succ]
  refine wpAnyH_take (i := 6) (oi := { dst := some 91, op := Go.Op.move (Go.Operand.tmp 1), type := 40, pos := "law.go:68", after := #[], guard := none }) (v := ?_) rfl (by kernel_rfl) (by kernel_rfl) (by kernel_rfl) (fun _ _ _ h => h) (Or.inl ⟨by rfl, ?_⟩) (by assumption) ?_
  rotate_left
  · (intro w0 hSw; (try dsimp only at hSw); go_split_ands; go_simp; with_reducible rfl)
  try simp only [Act.put, List.setIfInBounds_toArray, List.set_cons_zero, List.set_cons_succ]
  refine wpAnyH_take (i := 7) (oi := { dst := some 92, op := Go.Op.fieldAddr 45 (Go.Operand.tmp 9) 1, type := 0, pos := "law.go:68", after := #[], guard := none }) (v := ?_) rfl (by kernel_rfl) (by kernel_rfl) (by kernel_rfl) (fun _ _ _ h => h) (Or.inl ⟨by rfl, ?_⟩) (by assumption) ?_
  rotate_left
  · (intro w0 hSw; (try dsimp only at hSw); go_split_ands; go_simp; with_reducible rfl)
  try simp only [Act.put, List.setIfInBounds_toArray, List.set_cons_zero, List.set_cons_succ]
  refine wpAnyH_take (i := 8) (oi := { dst := some 93, op := Go.Op.load 3 (Go.Operand.tmp 92), type := 3, pos := "law.go:68", after := #[{ on := 7, ground := Go.Ground.data }], guard := none }) (v := ?_) rfl (by kernel_rfl) (by kernel_rfl) (by kernel_rfl) (fun _ _ _ h => h) (Or.inl ⟨by rfl, ?_⟩) (by assumption) ?_
  rotate_left
  · (intro w0 hSw; (try dsimp only at hSw); go_split_ands; go_simp; with_reducible rfl)
  try simp only [Act.put, List.setIfInBounds_toArray, List.set_cons_zero, List.set_cons_succ]
  refine wpAnyH_take (i := 9) (oi := { dst := some 94, op := Go.Op.fieldAddr 45 (Go.Operand.tmp 9) 2, type := 0, pos := "law.go:68", after := #[], guard := none }) (v := ?_) rfl (by kernel_rfl) (by kernel_rfl) (by kernel_rfl) (fun _ _ _ h => h) (Or.inl ⟨by rfl, ?_⟩) (by assumption) ?_
  rotate_left
  · (intro w0 hSw; (try dsimp only at hSw); go_split_ands; go_simp; with_reducible rfl)
  try simp only [Act.put, List.setIfInBounds_toArray, List.set_cons_zero, List.set_cons_succ]
  refine wpAnyH_take (i := 10) (oi := { dst := some 95, op := Go.Op.load 35 (Go.Operand.tmp 94), type := 35, pos := "law.go:68", after := #[{ on := 9, ground := Go.Ground.data }], guard := none }) (v := ?_) rfl (by kernel_rfl) (by kernel_rfl) (by kernel_rfl) (fun _ _ _ h => h) (Or.inl ⟨by rfl, ?_⟩) (by assumption) ?_
  rotate_left
  · (intro w0 hSw; (try dsimp only at hSw); go_split_ands; go_simp; with_reducible rfl)
  try simp only [Act.put, List.setIfInBounds_toArray, List.set_cons_zero, List.set_cons_succ]
  refine wpAnyH_ready (rs := [5]) (by kernel_rfl) (by simp) ?_
  refine AllReadyH.cons (o := { dst := some 90, op := Go.Op.call { callee := Go.Callee.value (Go.Operand.func 33), args := #[Go.Operand.tmp 85, Go.Operand.tmp 87, Go.Operand.tmp 89], argTypes := #[37, 3, 35] }, type := 4, pos := "law.go:68", after := #[{ on := 0, ground := Go.Ground.data }, { on := 2, ground := Go.Ground.data }, { on := 4, ground := Go.Ground.data }], guard := none }) rfl (fun K hK => ?_) AllReadyH.nil
  go_simp
  go_at_call 33
  refine HP.out.mono ?_
  rintro e w1 ⟨rfl, V1, ht, hbl, hfr⟩
  obtain ⟨hf1, hh1⟩ := hfr _ HFd.out
  have HT1 := Lib.hid ht
  have HBL1 := Lib.hid hbl
  have HF1 := Lib.hid hf1
  have HC1 := Lib.hid (HCd.out.same hh1)
  have HD := Lib.hid (d_evict (x := x) HT1.out)
  clear ht hbl hfr hf1 hh1 HP
  refine hK.out _ _ HC1.out (fun hHeld => ?_)
  clear hK K
  try simp only [Act.put, List.setIfInBounds_toArray, List.set_cons_zero, List.set_cons_succ]
  refine wpAnyH_ready (rs := [11]) (by kernel_rfl) (by simp) ?_
  refine AllReadyH.cons (o := { dst := some 96, op := Go.Op.call { callee := Go.Callee.value (Go.Operand.func 34), args := #[Go.Operand.tmp 91, Go.Operand.tmp 93, Go.Operand.tmp 95], argTypes := #[40, 3, 35] }, type := 4, pos := "law.go:68", after := #[{ on := 6, ground := Go.Ground.data }, { on := 8, ground := Go.Ground.data }, { on := 10, ground := Go.Ground.data }, { on := 5, ground := Go.Ground.chain }], guard := none }) rfl (fun K hK => ?_) AllReadyH.nil
  go_simp
  go_at_call 34
  refine HD.out.mono ?_
  rintro e w2 ⟨rfl, VR2, ht, hbl, hfr⟩
  obtain ⟨hf2, hh2⟩ := hfr _ HF1.out
  have HT2 := Lib.hid ht
  have HBL2 : Hid (Below H.lo w w2) := Lib.hid (((HBd.out.mono HLL.out).trans HBL1.out).trans hbl)
  have HC2 := Lib.hid (HC1.out.same hh2)
  clear ht hbl hfr hf2 hh2 HD
  refine hK.out _ _ HC2.out (fun hHeld => ?_)
  clear hK K
  try simp only [Act.put, List.setIfInBounds_toArray, List.set_cons_zero, List.set_cons_succ]
  refine wpAnyH_take (i := 12) (oi := { dst := some 97, op := Go.Op.binOp Go.BinOp.eql 4 (Go.Operand.tmp 90) (Go.Operand.tmp 96) 4, type := 4, pos := "law.go:68", after := #[{ on := 5, ground := Go.Ground.data }, { on := 11, ground := Go.Ground.data }], guard := none }) (v := .bool true) rfl (by kernel_rfl) (by kernel_rfl) (by kernel_rfl) (fun _ _ _ h => h) (Or.inl ⟨by rfl, ?_⟩) (by assumption) ?_
  · (intro w0 hSw; (try dsimp only at hSw); go_split_ands; go_simp)
  try simp only [Act.put, List.setIfInBounds_toArray, List.set_cons_zero, List.set_cons_succ]
  refine wpAnyH_take (i := 13) (oi := { dst := some 10, op := Go.Op.assign (Go.Operand.tmp 97), type := 4, pos := "law.go:68", after := #[{ on := 12, ground := Go.Ground.data }, { on := 11, ground := Go.Ground.chain }, { on := 0, ground := Go.Ground.phase }, { on := 1, ground := Go.Ground.phase }, { on := 2, ground := Go.Ground.phase }, { on := 3, ground := Go.Ground.phase }, { on := 4, ground := Go.Ground.phase }, { on := 5, ground := Go.Ground.phase }, { on := 6, ground := Go.Ground.phase }, { on := 7, ground := Go.Ground.phase }, { on := 8, ground := Go.Ground.phase }, { on := 9, ground := Go.Ground.phase }, { on := 10, ground := Go.Ground.phase }, { on := 11, ground := Go.Ground.phase }, { on := 12, ground := Go.Ground.phase }], guard := none }) (v := ?_) rfl (by kernel_rfl) (by kernel_rfl) (by kernel_rfl) (fun _ _ _ h => h) (Or.inl ⟨by rfl, ?_⟩) (by assumption) ?_
  rotate_left
  · (intro w0 hSw; (try dsimp only at hSw); go_split_ands; go_simp; with_reducible rfl)
  try simp only [Act.put, List.setIfInBounds_toArray, List.set_cons_zero, List.set_cons_succ]
  refine wpAnyH_done (by kernel_rfl) ?_ _
  clear hHeld
  go_wp2
  all_goals
    go_ret
    exact ⟨rfl, ⟨_, _, _, M, by rw [HA.out]; exact HT2.out, by rw [HA.out]; exact E.out.evict x.core x.ad, HBK.out.evict x.core x.ad, HM2.out⟩, HBL2.out⟩
set_option maxRecDepth 100000 in
set_option maxHeartbeats 4000000 in
theorem step_5 (h : TwC w H V VR S R M) (e : Eqv S R) (hb : Bd K S) (hr : BdR K R) (hK : K < 200) (hM : Cfg2 M) (hx : NxOk x) (hop : x.op = 5) : Calls Try.prog 12 (argS H x) w (StepEnd w H V VR S K M x) := by
  have HA : Hid (S.act M x = S.tell M x.ad) := Lib.hid (by unfold Sd.act; rw [if_neg (by rw [hop]; decide)]; rw [if_neg (by rw [hop]; decide)]; rw [if_neg (by rw [hop]; decide)]; rw [if_neg (by rw [hop]; decide)]; rw [if_pos hop])
  have hN : S.N < 1000000000 := by have := hb.n; omega
  have HN := Lib.hid hN
  have hb2 : Bd 200 S := ⟨by have := hb.n; omega, fun d hd => by have := hb.l d hd; omega, hb.y⟩
  have HBD := Lib.hid hb2
  have HBR := Lib.hid (hr.more (K' := 200) (by omega))
  have HBK := Lib.hid hr
  have E := Lib.hid e
  have HX := Lib.hid hx
  have HM2 := Lib.hid hM
  have HMC := Lib.hid hM.cfg
  have q1 : (x.op == 1) = false := by rw [hop]; decide
  have q2 : (x.op == 2) = false := by rw [hop]; decide
  have q3 : (x.op == 3) = false := by rw [hop]; decide
  have q4 : (x.op == 4) = false := by rw [hop]; decide
  have q5 : (x.op == 5) = true := by rw [hop]; decide
  have hbx : Below w.heap.size w (w.alloc (.cells #[.int .i64 x.op, .int .i64 x.core, .int .u64 (x.ad : Nat), .int .i64 x.N, .int .u64 (x.v : Nat)] 45)) := (Below.refl _ _).alloc (Nat.le_refl _) _
  have HB0 := Lib.hid hbx
  have HT0 := Lib.hid (h.past hbx)
  have HF0 : Hid (Fre (w.alloc (.cells #[.int .i64 x.op, .int .i64 x.core, .int .u64 (x.ad : Nat), .int .i64 x.N, .int .u64 (x.v : Nat)] 45)) H V VR S.n w.heap.size) := Lib.hid h.fresh
  have HC0 : Hid (BxC (w.alloc (.cells #[.int .i64 x.op, .int .i64 x.core, .int .u64 (x.ad : Nat), .int .i64 x.N, .int .u64 (x.v : Nat)] 45)) w.heap.size x) := Lib.hid ⟨World.cell?_alloc_at _ _ _ _ rfl, World.cell?_alloc_at _ _ _ _ rfl, World.cell?_alloc_at _ _ _ _ rfl, World.cell?_alloc_at _ _ _ _ rfl, World.cell?_alloc_at _ _ _ _ rfl⟩
  have HLL := Lib.hid h.lol
  clear h e hb hb2 hr hx hM hop hN hbx
  unfold argS
  go_enter Try.func12, Try.ntmps12
  go_upto_region 13 with (fail)
  have HBd : Hid (Below w.heap.size w (w.alloc (.cells #[.int .i64 x.op, .int .i64 x.core, .int .u64 (x.ad : Nat), .int .i64 x.N, .int .u64 (x.v : Nat)] 45)).drew) := Lib.hid (below_drewN HB0.out 1)
  have HTd := Lib.hid (HT0.out.past (below_drewN (Below.refl _ _) 1))
  have HFd : Hid (Fre (w.alloc (.cells #[.int .i64 x.op, .int .i64 x.core, .int .u64 (x.ad : Nat), .int .i64 x.N, .int .u64 (x.v : Nat)] 45)).drew H V VR S.n w.heap.size) := Lib.hid (HF0.out.past (Nat.le_refl _))
  have HCd : Hid (BxC (w.alloc (.cells #[.int .i64 x.op, .int .i64 x.core, .int .u64 (x.ad : Nat), .int .i64 x.N, .int .u64 (x.v : Nat)] 45)).drew w.heap.size x) := Lib.hid (HC0.out.same rfl)
  have HTd : Hid (TwC (w.alloc (.cells #[.int .i64 x.op, .int .i64 x.core, .int .u64 (x.ad : Nat), .int .i64 x.N, .int .u64 (x.v : Nat)] 45)).drew H V VR S R M) := HTd
  refine wp_region_held_drew (S := fun w' => (w'.cell? ⟨w.heap.size, 0, none⟩ = some (.int .i64 x.op) ∧ w'.cell? ⟨w.heap.size, 1, none⟩ = some (.int .i64 x.core) ∧ w'.cell? ⟨w.heap.size, 2, none⟩ = some (.int .u64 (x.ad : Nat)) ∧ w'.cell? ⟨w.heap.size, 3, none⟩ = some (.int .i64 x.N) ∧ w'.cell? ⟨w.heap.size, 4, none⟩ = some (.int .u64 (x.v : Nat)))) (by kernel_rfl) HCd.out (fun hHeld => ?_)
  generalize (w.alloc (.cells #[.int .i64 x.op, .int .i64 x.core, .int .u64 (x.ad : Nat), .int .i64 x.N, .int .u64 (x.v : Nat)] 45)).drew = V0 at HBd HTd HFd HCd hHeld ⊢
  have HP := Lib.hid (flow2_c HTd.out HMC.out HX.out)
  clear HB0 HT0 HF0 HC0
  refine wpAnyH_take (i := 0) (oi := { dst := some 100, op := Go.Op.move (Go.Operand.tmp 0), type := 37, pos := "law.go:70", after := #[], guard := none }) (v := ?_) rfl (by kernel_rfl) (by kernel_rfl) (by kernel_rfl) (fun _ _ _ h => h) (Or.inl ⟨by rfl, ?_⟩) (by assumption) ?_
  rotate_left
  · (intro w0 hSw; (try dsimp only at hSw); go_split_ands; go_simp; with_reducible rfl)
  try simp only [Act.put, List.setIfInBounds_toArray, List.set_cons_zero, List.set_cons_succ]
  refine wpAnyH_take (i := 1) (oi := { dst := some 101, op := Go.Op.fieldAddr 45 (Go.Operand.tmp 9) 2, type := 0, pos := "law.go:70", after := #[], guard := none }) (v := ?_) rfl (by kernel_rfl) (by kernel_rfl) (by kernel_rfl) (fun _ _ _ h => h) (Or.inl ⟨by rfl, ?_⟩) (by assumption) ?_
  rotate_left
  · (intro w0 hSw; (try dsimp only at hSw); go_split_ands; go_simp; with_reducible rfl)
  try simp only [Act.put, List.setIfInBounds_toArray, List.set_cons_zero, List.set_cons_succ]
  refine wpAnyH_take (i := 2) (oi := { dst := some 102, op := Go.Op.load 35 (Go.Operand.tmp 101), type := 35, pos := "law.go:70", after := #[{ on := 1, ground := Go.Ground.data }], guard := none }) (v := ?_) rfl (by kernel_rfl) (by kernel_rfl) (by kernel_rfl) (fun _ _ _ h => h) (Or.inl ⟨by rfl, ?_⟩) (by assumption) ?_
  rotate_left
  · (intro w0 hSw; (try dsimp only at hSw); go_split_ands; go_simp; with_reducible rfl)
  try simp only [Act.put, List.setIfInBounds_toArray, List.set_cons_zero, List.set_cons_succ]
  refine wpAnyH_take (i := 4) (oi := { dst := some 104, op := Go.Op.move (Go.Operand.tmp 1), type := 40, pos := "law.go:70", after := #[], guard := none }) (v := ?_) rfl (by kernel_rfl) (by kernel_rfl) (by kernel_rfl) (fun _ _ _ h => h) (Or.inl ⟨by rfl, ?_⟩) (by assumption) ?_
  rotate_left
  · (intro w0 hSw; (try dsimp only at hSw); go_split_ands; go_simp; with_reducible rfl)
  try simp only [Act.put, List.setIfInBounds_toArray, List.set_cons_zero, List.set_cons_succ]
  refine wpAnyH_take (i := 5) (oi := { dst := some 105, op := Go.Op.move (Go.Operand.tmp 3), type := 31, pos := "law.go:70", after := #[], guard := none }) (v := ?_) rfl (by kernel_rfl) (by kernel_rfl) (by kernel_rfl) (fun _ _ _ h => h) (Or.inl ⟨by rfl, ?_⟩) (by assumption) ?_
  rotate_left
  · (intro w0 hSw; (try dsimp only at hSw); go_split_ands; go_simp; with_reducible rfl)
  try simp only [Act.put, List.setIfInBounds_toArray, List.set_cons_zero, List.set_cons_succ]
  refine wpAnyH_take (i := 6) (oi := { dst := some 106, op := Go.Op.fieldAddr 45 (Go.Operand.tmp 9) 2, type := 0, pos := "law.go:70", after := #[], guard := none }) (v := ?_) rfl (by kernel_rfl) (by kernel_rfl) (by kernel_rfl) (fun _ _ _ h => h) (Or.inl ⟨by rfl, ?_⟩) (by assumption) ?_
  rotate_left
  · (intro w0 hSw; (try dsimp only at hSw); go_split_ands; go_simp; with_reducible rfl)
  try simp only [Act.put, List.setIfInBounds_toArray, List.set_cons_zero, List.set_cons_succ]
  refine wpAnyH_take (i := 7) (oi := { dst := some 107, op := Go.Op.load 35 (Go.Operand.tmp 106), type := 35, pos := "law.go:70", after := #[{ on := 6, ground := Go.Ground.data }], guard := none }) (v := ?_) rfl (by kernel_rfl) (by kernel_rfl) (by kernel_rfl) (fun _ _ _ h => h) (Or.inl ⟨by rfl, ?_⟩) (by assumption) ?_
  rotate_left
  · (intro w0 hSw; (try dsimp only at hSw); go_split_ands; go_simp; with_reducible rfl)
  try simp only [Act.put, List.setIfInBounds_toArray, List.set_cons_zero, List.set_cons_succ]
  refine wpAnyH_ready (rs := [3]) (by kernel_rfl) (by simp) ?_
  refine AllReadyH.cons (o := { dst := some 103, op := Go.Op.call { callee := Go.Callee.value (Go.Operand.func 35), args := #[Go.Operand.tmp 100, Go.Operand.tmp 102], argTypes := #[37, 35] }, type := 26, pos := "law.go:70", after := #[{ on := 0, ground := Go.Ground.data }, { on := 2, ground := Go.Ground.data }], guard := none }) rfl (fun K hK => ?_) AllReadyH.nil
  go_simp
  go_at_call 35
  refine HP.out.mono ?_
  rintro e w1 ⟨rfl, V1, ht, hbl, hfr⟩
  obtain ⟨hf1, hh1⟩ := hfr _ HFd.out
  have HT1 := Lib.hid ht
  have HBL1 := Lib.hid hbl
  have HF1 := Lib.hid hf1
  have HC1 := Lib.hid (HCd.out.same hh1)
  have HD := Lib.hid (d_flow HT1.out HMC.out HBR.out HX.out)
  clear ht hbl hfr hf1 hh1 HP
  refine hK.out _ _ HC1.out (fun hHeld => ?_)
  clear hK K
  try simp only [Act.put, List.setIfInBounds_toArray, List.set_cons_zero, List.set_cons_succ]
  refine wpAnyH_ready (rs := [8]) (by kernel_rfl) (by simp) ?_
  refine AllReadyH.cons (o := { dst := some 108, op := Go.Op.call { callee := Go.Callee.value (Go.Operand.func 36), args := #[Go.Operand.tmp 104, Go.Operand.tmp 105, Go.Operand.tmp 107], argTypes := #[40, 31, 35] }, type := 3, pos := "law.go:70", after := #[{ on := 4, ground := Go.Ground.data }, { on := 5, ground := Go.Ground.data }, { on := 7, ground := Go.Ground.data }, { on := 3, ground := Go.Ground.chain }], guard := none }) rfl (fun K hK => ?_) AllReadyH.nil
  go_simp
  go_at_call 36
  refine HD.out.mono ?_
  rintro e w2 ⟨rfl, VR2, ht, hbl, hfr⟩
  obtain ⟨hf2, hh2⟩ := hfr _ HF1.out
  have HT2 := Lib.hid ht
  have HBL2 : Hid (Below H.lo w w2) := Lib.hid (((HBd.out.mono HLL.out).trans HBL1.out).trans hbl)
  have HC2 := Lib.hid (HC1.out.same hh2)
  clear ht hbl hfr hf2 hh2 HD
  refine hK.out _ _ HC2.out (fun hHeld => ?_)
  clear hK K
  try simp only [Act.put, List.setIfInBounds_toArray, List.set_cons_zero, List.set_cons_succ]
  refine wpAnyH_take (i := 9) (oi := { dst := some 109, op := Go.Op.binOp Go.BinOp.eql 3 (Go.Operand.tmp 103) (Go.Operand.tmp 108) 3, type := 4, pos := "law.go:70", after := #[{ on := 3, ground := Go.Ground.data }, { on := 8, ground := Go.Ground.data }], guard := none }) (v := .bool true) rfl (by kernel_rfl) (by kernel_rfl) (by kernel_rfl) (fun _ _ _ h => h) (Or.inl ⟨by rfl, ?_⟩) (by assumption) ?_
  · (intro w0 hSw; (try dsimp only at hSw); go_split_ands; go_simp)
  try simp only [Act.put, List.setIfInBounds_toArray, List.set_cons_zero, List.set_cons_succ]
  refine wpAnyH_take (i := 10) (oi := { dst := some 10, op := Go.Op.assign (Go.Operand.tmp 109), type := 4, pos := "law.go:70", after := #[{ on := 9, ground := Go.Ground.data }, { on := 8, ground := Go.Ground.chain }, { on := 0, ground := Go.Ground.phase }, { on := 1, ground := Go.Ground.phase }, { on := 2, ground := Go.Ground.phase }, { on := 3, ground := Go.Ground.phase }, { on := 4, ground := Go.Ground.phase }, { on := 5, ground := Go.Ground.phase }, { on := 6, ground := Go.Ground.phase }, { on := 7, ground := Go.Ground.phase }, { on := 8, ground := Go.Ground.phase }, { on := 9, ground := Go.Ground.phase }], guard := none }) (v := ?_) rfl (by kernel_rfl) (by kernel_rfl) (by kernel_rfl) (fun _ _ _ h => h) (Or.inl ⟨by rfl, ?_⟩) (by assumption) ?_
  rotate_left
  · (intro w0 hSw; (try dsimp only at hSw); go_split_ands; go_simp; with_reducible rfl)
  try simp only [Act.put, List.setIfInBounds_toArray, List.set_cons_zero, List.set_cons_succ]
  refine wpAnyH_done (by kernel_rfl) ?_ _
  clear hHeld
  go_wp2
  all_goals
    go_ret
    exact ⟨rfl, ⟨_, _, _, M, by rw [HA.out]; exact HT2.out, by rw [HA.out]; exact E.out.tell HMC.out x.ad, HBK.out.flow M x.ad, HM2.out⟩, HBL2.out⟩
set_option maxRecDepth 100000 in
set_option maxHeartbeats 4000000 in
theorem step_6 (h : TwC w H V VR S R M) (e : Eqv S R) (hb : Bd K S) (hr : BdR K R) (hK : K < 200) (hM : Cfg2 M) (hx : NxOk x) (hop : x.op = 6) : Calls Try.prog 12 (argS H x) w (StepEnd w H V VR S K M x) := by
  have HA : Hid (S.act M x = S.tell M x.ad) := Lib.hid (by unfold Sd.act; rw [if_neg (by rw [hop]; decide)]; rw [if_neg (by rw [hop]; decide)]; rw [if_neg (by rw [hop]; decide)]; rw [if_neg (by rw [hop]; decide)]; rw [if_neg (by rw [hop]; decide)]; rw [if_pos hop])
  have hN : S.N < 1000000000 := by have := hb.n; omega
  have HN := Lib.hid hN
  have hb2 : Bd 200 S := ⟨by have := hb.n; omega, fun d hd => by have := hb.l d hd; omega, hb.y⟩
  have HBD := Lib.hid hb2
  have HBR := Lib.hid (hr.more (K' := 200) (by omega))
  have HBK := Lib.hid hr
  have E := Lib.hid e
  have HX := Lib.hid hx
  have HM2 := Lib.hid hM
  have HMC := Lib.hid hM.cfg
  have q1 : (x.op == 1) = false := by rw [hop]; decide
  have q2 : (x.op == 2) = false := by rw [hop]; decide
  have q3 : (x.op == 3) = false := by rw [hop]; decide
  have q4 : (x.op == 4) = false := by rw [hop]; decide
  have q5 : (x.op == 5) = false := by rw [hop]; decide
  have q6 : (x.op == 6) = true := by rw [hop]; decide
  have hbx : Below w.heap.size w (w.alloc (.cells #[.int .i64 x.op, .int .i64 x.core, .int .u64 (x.ad : Nat), .int .i64 x.N, .int .u64 (x.v : Nat)] 45)) := (Below.refl _ _).alloc (Nat.le_refl _) _
  have HB0 := Lib.hid hbx
  have HT0 := Lib.hid (h.past hbx)
  have HF0 : Hid (Fre (w.alloc (.cells #[.int .i64 x.op, .int .i64 x.core, .int .u64 (x.ad : Nat), .int .i64 x.N, .int .u64 (x.v : Nat)] 45)) H V VR S.n w.heap.size) := Lib.hid h.fresh
  have HC0 : Hid (BxC (w.alloc (.cells #[.int .i64 x.op, .int .i64 x.core, .int .u64 (x.ad : Nat), .int .i64 x.N, .int .u64 (x.v : Nat)] 45)) w.heap.size x) := Lib.hid ⟨World.cell?_alloc_at _ _ _ _ rfl, World.cell?_alloc_at _ _ _ _ rfl, World.cell?_alloc_at _ _ _ _ rfl, World.cell?_alloc_at _ _ _ _ rfl, World.cell?_alloc_at _ _ _ _ rfl⟩
  have HLL := Lib.hid h.lol
  clear h e hb hb2 hr hx hM hop hN hbx
  unfold argS
  go_enter Try.func12, Try.ntmps12
  have HD := Lib.hid (d_flow HT0.out HMC.out HBR.out HX.out)
  obtain ⟨c0, c1, c2, c3, c4⟩ := HC0.out
  go_upto_region 16 with (go_at_call 36; refine HD.out.mono ?_; rintro e w1 ⟨rfl, VR1, ht, hbl, hfr⟩; obtain ⟨hf1, hh1⟩ := hfr _ HF0.out; have HT1 := Lib.hid ht; have HBL1 := Lib.hid hbl; have HC1 := Lib.hid (HC0.out.same hh1); have HP := Lib.hid (p_clean HT1.out HMC.out HX.out); clear ht hbl hfr hf1 hh1)
  clear c0 c1 c2 c3 c4
  obtain ⟨c0, c1, c2, c3, c4⟩ := HC1.out
  go_wp2_with (go_at_call 17; refine HP.out.mono ?_; rintro e w2 ⟨rfl, V2, ht, hbl, hfr⟩; have HT2 := Lib.hid ht; have HBL2 : Hid (Below H.lo w w2) := Lib.hid (((HB0.out.mono HLL.out).trans HBL1.out).trans hbl); clear ht hbl hfr)
  all_goals
    go_ret
    exact ⟨rfl, ⟨_, _, _, M, by rw [HA.out]; exact HT2.out, by rw [HA.out]; exact E.out.tell HMC.out x.ad, HBK.out.flow M x.ad, HM2.out⟩, HBL2.out⟩
set_option maxRecDepth 100000 in
set_option maxHeartbeats 4000000 in
theorem step_7 (h : TwC w H V VR S R M) (e : Eqv S R) (hb : Bd K S) (hr : BdR K R) (hK : K < 200) (hM : Cfg2 M) (hx : NxOk x) (hop : x.op = 7) : Calls Try.prog 12 (argS H x) w (StepEnd w H V VR S K M x) := by
  have HA : Hid (S.act M x = S.inval x.core x.ad) := Lib.hid (by unfold Sd.act; rw [if_neg (by rw [hop]; decide)]; rw [if_neg (by rw [hop]; decide)]; rw [if_neg (by rw [hop]; decide)]; rw [if_neg (by rw [hop]; decide)]; rw [if_neg (by rw [hop]; decide)]; rw [if_neg (by rw [hop]; decide)]; rw [if_pos hop])
  have hN : S.N < 1000000000 := by have := hb.n; omega
  have HN := Lib.hid hN
  have hb2 : Bd 200 S := ⟨by have := hb.n; omega, fun d hd => by have := hb.l d hd; omega, hb.y⟩
  have HBD := Lib.hid hb2
  have HBR := Lib.hid (hr.more (K' := 200) (by omega))
  have HBK := Lib.hid hr
  have E := Lib.hid e
  have HX := Lib.hid hx
  have HM2 := Lib.hid hM
  have HMC := Lib.hid hM.cfg
  have q1 : (x.op == 1) = false := by rw [hop]; decide
  have q2 : (x.op == 2) = false := by rw [hop]; decide
  have q3 : (x.op == 3) = false := by rw [hop]; decide
  have q4 : (x.op == 4) = false := by rw [hop]; decide
  have q5 : (x.op == 5) = false := by rw [hop]; decide
  have q6 : (x.op == 6) = false := by rw [hop]; decide
  have q7 : (x.op == 7) = true := by rw [hop]; decide
  have hbx : Below w.heap.size w (w.alloc (.cells #[.int .i64 x.op, .int .i64 x.core, .int .u64 (x.ad : Nat), .int .i64 x.N, .int .u64 (x.v : Nat)] 45)) := (Below.refl _ _).alloc (Nat.le_refl _) _
  have HB0 := Lib.hid hbx
  have HT0 := Lib.hid (h.past hbx)
  have HF0 : Hid (Fre (w.alloc (.cells #[.int .i64 x.op, .int .i64 x.core, .int .u64 (x.ad : Nat), .int .i64 x.N, .int .u64 (x.v : Nat)] 45)) H V VR S.n w.heap.size) := Lib.hid h.fresh
  have HC0 : Hid (BxC (w.alloc (.cells #[.int .i64 x.op, .int .i64 x.core, .int .u64 (x.ad : Nat), .int .i64 x.N, .int .u64 (x.v : Nat)] 45)) w.heap.size x) := Lib.hid ⟨World.cell?_alloc_at _ _ _ _ rfl, World.cell?_alloc_at _ _ _ _ rfl, World.cell?_alloc_at _ _ _ _ rfl, World.cell?_alloc_at _ _ _ _ rfl, World.cell?_alloc_at _ _ _ _ rfl⟩
  have HLL := Lib.hid h.lol
  clear h e hb hb2 hr hx hM hop hN hbx
  unfold argS
  go_enter Try.func12, Try.ntmps12
  go_upto_region 18 with (fail)
  have HBd : Hid (Below w.heap.size w (w.alloc (.cells #[.int .i64 x.op, .int .i64 x.core, .int .u64 (x.ad : Nat), .int .i64 x.N, .int .u64 (x.v : Nat)] 45)).drew) := Lib.hid (below_drewN HB0.out 1)
  have HTd := Lib.hid (HT0.out.past (below_drewN (Below.refl _ _) 1))
  have HFd : Hid (Fre (w.alloc (.cells #[.int .i64 x.op, .int .i64 x.core, .int .u64 (x.ad : Nat), .int .i64 x.N, .int .u64 (x.v : Nat)] 45)).drew H V VR S.n w.heap.size) := Lib.hid (HF0.out.past (Nat.le_refl _))
  have HCd : Hid (BxC (w.alloc (.cells #[.int .i64 x.op, .int .i64 x.core, .int .u64 (x.ad : Nat), .int .i64 x.N, .int .u64 (x.v : Nat)] 45)).drew w.heap.size x) := Lib.hid (HC0.out.same rfl)
  have HTd : Hid (TwC (w.alloc (.cells #[.int .i64 x.op, .int .i64 x.core, .int .u64 (x.ad : Nat), .int .i64 x.N, .int .u64 (x.v : Nat)] 45)).drew H V VR S R M) := HTd
  refine wp_region_held_drew (S := fun w' => (w'.cell? ⟨w.heap.size, 0, none⟩ = some (.int .i64 x.op) ∧ w'.cell? ⟨w.heap.size, 1, none⟩ = some (.int .i64 x.core) ∧ w'.cell? ⟨w.heap.size, 2, none⟩ = some (.int .u64 (x.ad : Nat)) ∧ w'.cell? ⟨w.heap.size, 3, none⟩ = some (.int .i64 x.N) ∧ w'.cell? ⟨w.heap.size, 4, none⟩ = some (.int .u64 (x.v : Nat)))) (by kernel_rfl) HCd.out (fun hHeld => ?_)
  generalize (w.alloc (.cells #[.int .i64 x.op, .int .i64 x.core, .int .u64 (x.ad : Nat), .int .i64 x.N, .int .u64 (x.v : Nat)] 45)).drew = V0 at HBd HTd HFd HCd hHeld ⊢
  have HP := Lib.hid (p_inval HTd.out E.out HX.out HBD.out)
  clear HB0 HT0 HF0 HC0
  refine wpAnyH_take (i := 0) (oi := { dst := some 124, op := Go.Op.move (Go.Operand.tmp 0), type := 37, pos := "law.go:75", after := #[], guard := none }) (v := ?_) rfl (by kernel_rfl) (by kernel_rfl) (by kernel_rfl) (fun _ _ _ h => h) (Or.inl ⟨by rfl, ?_⟩) (by assumption) ?_
  rotate_left
  · (intro w0 hSw; (try dsimp only at hSw); go_split_ands; go_simp; with_reducible rfl)
  try simp only [Act.put, List.setIfInBounds_toArray, List.set_cons_zero, List.set_cons_succ]
  refine wpAnyH_take (i := 1) (oi := { dst := some 125, op := Go.Op.fieldAddr 45 (Go.Operand.tmp 9) 1, type := 0, pos := "law.go:75", after := #[], guard := none }) (v := ?_) rfl (by kernel_rfl) (by kernel_rfl) (by kernel_rfl) (fun _ _ _ h => h) (Or.inl ⟨by rfl, ?_⟩) (by assumption) ?_
  rotate_left
  · (intro w0 hSw; (try dsimp only at hSw); go_split_ands; go_simp; with_reducible rfl)
  try simp only [Act.put, List.setIfInBounds_toArray, List.set_cons_zero, List.set_cons_succ]
  refine wpAnyH_take (i := 2) (oi := { dst := some 126, op := Go.Op.load 3 (Go.Operand.tmp 125), type := 3, pos := "law.go:75", after := #[{ on := 1, ground := Go.Ground.data }], guard := none }) (v := ?_) rfl (by kernel_rfl) (by kernel_rfl) (by kernel_rfl) (fun _ _ _ h => h) (Or.inl ⟨by rfl, ?_⟩) (by assumption) ?_
  rotate_left
  · (intro w0 hSw; (try dsimp only at hSw); go_split_ands; go_simp; with_reducible rfl)
  try simp only [Act.put, List.setIfInBounds_toArray, List.set_cons_zero, List.set_cons_succ]
  refine wpAnyH_take (i := 3) (oi := { dst := some 127, op := Go.Op.fieldAddr 45 (Go.Operand.tmp 9) 2, type := 0, pos := "law.go:75", after := #[], guard := none }) (v := ?_) rfl (by kernel_rfl) (by kernel_rfl) (by kernel_rfl) (fun _ _ _ h => h) (Or.inl ⟨by rfl, ?_⟩) (by assumption) ?_
  rotate_left
  · (intro w0 hSw; (try dsimp only at hSw); go_split_ands; go_simp; with_reducible rfl)
  try simp only [Act.put, List.setIfInBounds_toArray, List.set_cons_zero, List.set_cons_succ]
  refine wpAnyH_take (i := 4) (oi := { dst := some 128, op := Go.Op.load 35 (Go.Operand.tmp 127), type := 35, pos := "law.go:75", after := #[{ on := 3, ground := Go.Ground.data }], guard := none }) (v := ?_) rfl (by kernel_rfl) (by kernel_rfl) (by kernel_rfl) (fun _ _ _ h => h) (Or.inl ⟨by rfl, ?_⟩) (by assumption) ?_
  rotate_left
  · (intro w0 hSw; (try dsimp only at hSw); go_split_ands; go_simp; with_reducible rfl)
  try simp only [Act.put, List.setIfInBounds_toArray, List.set_cons_zero, List.set_cons_succ]
  refine wpAnyH_take (i := 6) (oi := { dst := some 130, op := Go.Op.move (Go.Operand.tmp 1), type := 40, pos := "law.go:75", after := #[], guard := none }) (v := ?_) rfl (by kernel_rfl) (by kernel_rfl) (by kernel_rfl) (fun _ _ _ h => h) (Or.inl ⟨by rfl, ?_⟩) (by assumption) ?_
  rotate_left
  · (intro w0 hSw; (try dsimp only at hSw); go_split_ands; go_simp; with_reducible rfl)
  try simp only [Act.put, List.setIfInBounds_toArray, List.set_cons_zero, List.set_cons_succ]
  refine wpAnyH_take (i := 7) (oi := { dst := some 131, op := Go.Op.fieldAddr 45 (Go.Operand.tmp 9) 1, type := 0, pos := "law.go:75", after := #[], guard := none }) (v := ?_) rfl (by kernel_rfl) (by kernel_rfl) (by kernel_rfl) (fun _ _ _ h => h) (Or.inl ⟨by rfl, ?_⟩) (by assumption) ?_
  rotate_left
  · (intro w0 hSw; (try dsimp only at hSw); go_split_ands; go_simp; with_reducible rfl)
  try simp only [Act.put, List.setIfInBounds_toArray, List.set_cons_zero, List.set_cons_succ]
  refine wpAnyH_take (i := 8) (oi := { dst := some 132, op := Go.Op.load 3 (Go.Operand.tmp 131), type := 3, pos := "law.go:75", after := #[{ on := 7, ground := Go.Ground.data }], guard := none }) (v := ?_) rfl (by kernel_rfl) (by kernel_rfl) (by kernel_rfl) (fun _ _ _ h => h) (Or.inl ⟨by rfl, ?_⟩) (by assumption) ?_
  rotate_left
  · (intro w0 hSw; (try dsimp only at hSw); go_split_ands; go_simp; with_reducible rfl)
  try simp only [Act.put, List.setIfInBounds_toArray, List.set_cons_zero, List.set_cons_succ]
  refine wpAnyH_take (i := 9) (oi := { dst := some 133, op := Go.Op.fieldAddr 45 (Go.Operand.tmp 9) 2, type := 0, pos := "law.go:75", after := #[], guard := none }) (v := ?_) rfl (by kernel_rfl) (by kernel_rfl) (by kernel_rfl) (fun _ _ _ h => h) (Or.inl ⟨by rfl, ?_⟩) (by assumption) ?_
  rotate_left
  · (intro w0 hSw; (try dsimp only at hSw); go_split_ands; go_simp; with_reducible rfl)
  try simp only [Act.put, List.setIfInBounds_toArray, List.set_cons_zero, List.set_cons_succ]
  refine wpAnyH_take (i := 10) (oi := { dst := some 134, op := Go.Op.load 35 (Go.Operand.tmp 133), type := 35, pos := "law.go:75", after := #[{ on := 9, ground := Go.Ground.data }], guard := none }) (v := ?_) rfl (by kernel_rfl) (by kernel_rfl) (by kernel_rfl) (fun _ _ _ h => h) (Or.inl ⟨by rfl, ?_⟩) (by assumption) ?_
  rotate_left
  · (intro w0 hSw; (try dsimp only at hSw); go_split_ands; go_simp; with_reducible rfl)
  try simp only [Act.put, List.setIfInBounds_toArray, List.set_cons_zero, List.set_cons_succ]
  refine wpAnyH_ready (rs := [5]) (by kernel_rfl) (by simp) ?_
  refine AllReadyH.cons (o := { dst := some 129, op := Go.Op.call { callee := Go.Callee.value (Go.Operand.func 18), args := #[Go.Operand.tmp 124, Go.Operand.tmp 126, Go.Operand.tmp 128], argTypes := #[37, 3, 35] }, type := 26, pos := "law.go:75", after := #[{ on := 0, ground := Go.Ground.data }, { on := 2, ground := Go.Ground.data }, { on := 4, ground := Go.Ground.data }], guard := none }) rfl (fun K hK => ?_) AllReadyH.nil
  go_simp
  go_at_call 18
  refine HP.out.mono ?_
  rintro e w1 ⟨rfl, V1, ht, hbl, hfr⟩
  obtain ⟨hf1, hh1⟩ := hfr _ HFd.out
  have HT1 := Lib.hid ht
  have HBL1 := Lib.hid hbl
  have HF1 := Lib.hid hf1
  have HC1 := Lib.hid (HCd.out.same hh1)
  have HD := Lib.hid (d_inval HT1.out HBR.out HX.out)
  clear ht hbl hfr hf1 hh1 HP
  refine hK.out _ _ HC1.out (fun hHeld => ?_)
  clear hK K
  try simp only [Act.put, List.setIfInBounds_toArray, List.set_cons_zero, List.set_cons_succ]
  refine wpAnyH_ready (rs := [11]) (by kernel_rfl) (by simp) ?_
  refine AllReadyH.cons (o := { dst := some 135, op := Go.Op.call { callee := Go.Callee.value (Go.Operand.func 37), args := #[Go.Operand.tmp 130, Go.Operand.tmp 132, Go.Operand.tmp 134], argTypes := #[40, 3, 35] }, type := 3, pos := "law.go:75", after := #[{ on := 6, ground := Go.Ground.data }, { on := 8, ground := Go.Ground.data }, { on := 10, ground := Go.Ground.data }, { on := 5, ground := Go.Ground.chain }], guard := none }) rfl (fun K hK => ?_) AllReadyH.nil
  go_simp
  go_at_call 37
  refine HD.out.mono ?_
  rintro e w2 ⟨rfl, VR2, ht, hbl, hfr⟩
  obtain ⟨hf2, hh2⟩ := hfr _ HF1.out
  have HT2 := Lib.hid ht
  have HBL2 : Hid (Below H.lo w w2) := Lib.hid (((HBd.out.mono HLL.out).trans HBL1.out).trans hbl)
  have HC2 := Lib.hid (HC1.out.same hh2)
  clear ht hbl hfr hf2 hh2 HD
  refine hK.out _ _ HC2.out (fun hHeld => ?_)
  clear hK K
  try simp only [Act.put, List.setIfInBounds_toArray, List.set_cons_zero, List.set_cons_succ]
  refine wpAnyH_take (i := 12) (oi := { dst := some 136, op := Go.Op.binOp Go.BinOp.eql 3 (Go.Operand.tmp 129) (Go.Operand.tmp 135) 3, type := 4, pos := "law.go:75", after := #[{ on := 5, ground := Go.Ground.data }, { on := 11, ground := Go.Ground.data }], guard := none }) (v := .bool true) rfl (by kernel_rfl) (by kernel_rfl) (by kernel_rfl) (fun _ _ _ h => h) (Or.inl ⟨by rfl, ?_⟩) (by assumption) ?_
  · (intro w0 hSw; (try dsimp only at hSw); go_split_ands; go_simp)
  try simp only [Act.put, List.setIfInBounds_toArray, List.set_cons_zero, List.set_cons_succ]
  refine wpAnyH_take (i := 13) (oi := { dst := some 10, op := Go.Op.assign (Go.Operand.tmp 136), type := 4, pos := "law.go:75", after := #[{ on := 12, ground := Go.Ground.data }, { on := 11, ground := Go.Ground.chain }, { on := 0, ground := Go.Ground.phase }, { on := 1, ground := Go.Ground.phase }, { on := 2, ground := Go.Ground.phase }, { on := 3, ground := Go.Ground.phase }, { on := 4, ground := Go.Ground.phase }, { on := 5, ground := Go.Ground.phase }, { on := 6, ground := Go.Ground.phase }, { on := 7, ground := Go.Ground.phase }, { on := 8, ground := Go.Ground.phase }, { on := 9, ground := Go.Ground.phase }, { on := 10, ground := Go.Ground.phase }, { on := 11, ground := Go.Ground.phase }, { on := 12, ground := Go.Ground.phase }], guard := none }) (v := ?_) rfl (by kernel_rfl) (by kernel_rfl) (by kernel_rfl) (fun _ _ _ h => h) (Or.inl ⟨by rfl, ?_⟩) (by assumption) ?_
  rotate_left
  · (intro w0 hSw; (try dsimp only at hSw); go_split_ands; go_simp; with_reducible rfl)
  try simp only [Act.put, List.setIfInBounds_toArray, List.set_cons_zero, List.set_cons_succ]
  refine wpAnyH_done (by kernel_rfl) ?_ _
  clear hHeld
  go_wp2
  all_goals
    go_ret
    exact ⟨rfl, ⟨_, _, _, M, by rw [HA.out]; exact HT2.out, by rw [HA.out]; exact E.out.inval x.core x.ad, HBK.out.inval x.core x.ad, HM2.out⟩, HBL2.out⟩
set_option maxRecDepth 100000 in
set_option maxHeartbeats 4000000 in
theorem step_8 (h : TwC w H V VR S R M) (e : Eqv S R) (hb : Bd K S) (hr : BdR K R) (hK : K < 200) (hM : Cfg2 M) (hx : NxOk x) (hop : x.op = 8) : Calls Try.prog 12 (argS H x) w (StepEnd w H V VR S K M x) := by
  have HA : Hid (S.act M x = S.deliver x.core x.N) := Lib.hid (by unfold Sd.act; rw [if_neg (by rw [hop]; decide)]; rw [if_neg (by rw [hop]; decide)]; rw [if_neg (by rw [hop]; decide)]; rw [if_neg (by rw [hop]; decide)]; rw [if_neg (by rw [hop]; decide)]; rw [if_neg (by rw [hop]; decide)]; rw [if_neg (by rw [hop]; decide)]; rw [if_pos hop])
  have hN : S.N < 1000000000 := by have := hb.n; omega
  have HN := Lib.hid hN
  have hb2 : Bd 200 S := ⟨by have := hb.n; omega, fun d hd => by have := hb.l d hd; omega, hb.y⟩
  have HBD := Lib.hid hb2
  have HBR := Lib.hid (hr.more (K' := 200) (by omega))
  have HBK := Lib.hid hr
  have E := Lib.hid e
  have HX := Lib.hid hx
  have HM2 := Lib.hid hM
  have HMC := Lib.hid hM.cfg
  have q1 : (x.op == 1) = false := by rw [hop]; decide
  have q2 : (x.op == 2) = false := by rw [hop]; decide
  have q3 : (x.op == 3) = false := by rw [hop]; decide
  have q4 : (x.op == 4) = false := by rw [hop]; decide
  have q5 : (x.op == 5) = false := by rw [hop]; decide
  have q6 : (x.op == 6) = false := by rw [hop]; decide
  have q7 : (x.op == 7) = false := by rw [hop]; decide
  have q8 : (x.op == 8) = true := by rw [hop]; decide
  have hbx : Below w.heap.size w (w.alloc (.cells #[.int .i64 x.op, .int .i64 x.core, .int .u64 (x.ad : Nat), .int .i64 x.N, .int .u64 (x.v : Nat)] 45)) := (Below.refl _ _).alloc (Nat.le_refl _) _
  have HB0 := Lib.hid hbx
  have HT0 := Lib.hid (h.past hbx)
  have HF0 : Hid (Fre (w.alloc (.cells #[.int .i64 x.op, .int .i64 x.core, .int .u64 (x.ad : Nat), .int .i64 x.N, .int .u64 (x.v : Nat)] 45)) H V VR S.n w.heap.size) := Lib.hid h.fresh
  have HC0 : Hid (BxC (w.alloc (.cells #[.int .i64 x.op, .int .i64 x.core, .int .u64 (x.ad : Nat), .int .i64 x.N, .int .u64 (x.v : Nat)] 45)) w.heap.size x) := Lib.hid ⟨World.cell?_alloc_at _ _ _ _ rfl, World.cell?_alloc_at _ _ _ _ rfl, World.cell?_alloc_at _ _ _ _ rfl, World.cell?_alloc_at _ _ _ _ rfl, World.cell?_alloc_at _ _ _ _ rfl⟩
  have HLL := Lib.hid h.lol
  clear h e hb hb2 hr hx hM hop hN hbx
  unfold argS
  go_enter Try.func12, Try.ntmps12
  go_upto_region 20 with (fail)
  have HBd : Hid (Below w.heap.size w (w.alloc (.cells #[.int .i64 x.op, .int .i64 x.core, .int .u64 (x.ad : Nat), .int .i64 x.N, .int .u64 (x.v : Nat)] 45)).drew) := Lib.hid (below_drewN HB0.out 1)
  have HTd := Lib.hid (HT0.out.past (below_drewN (Below.refl _ _) 1))
  have HFd : Hid (Fre (w.alloc (.cells #[.int .i64 x.op, .int .i64 x.core, .int .u64 (x.ad : Nat), .int .i64 x.N, .int .u64 (x.v : Nat)] 45)).drew H V VR S.n w.heap.size) := Lib.hid (HF0.out.past (Nat.le_refl _))
  have HCd : Hid (BxC (w.alloc (.cells #[.int .i64 x.op, .int .i64 x.core, .int .u64 (x.ad : Nat), .int .i64 x.N, .int .u64 (x.v : Nat)] 45)).drew w.heap.size x) := Lib.hid (HC0.out.same rfl)
  have HTd : Hid (TwC (w.alloc (.cells #[.int .i64 x.op, .int .i64 x.core, .int .u64 (x.ad : Nat), .int .i64 x.N, .int .u64 (x.v : Nat)] 45)).drew H V VR S R M) := HTd
  refine wp_region_held_drew (S := fun w' => (w'.cell? ⟨w.heap.size, 0, none⟩ = some (.int .i64 x.op) ∧ w'.cell? ⟨w.heap.size, 1, none⟩ = some (.int .i64 x.core) ∧ w'.cell? ⟨w.heap.size, 2, none⟩ = some (.int .u64 (x.ad : Nat)) ∧ w'.cell? ⟨w.heap.size, 3, none⟩ = some (.int .i64 x.N) ∧ w'.cell? ⟨w.heap.size, 4, none⟩ = some (.int .u64 (x.v : Nat)))) (by kernel_rfl) HCd.out (fun hHeld => ?_)
  generalize (w.alloc (.cells #[.int .i64 x.op, .int .i64 x.core, .int .u64 (x.ad : Nat), .int .i64 x.N, .int .u64 (x.v : Nat)] 45)).drew = V0 at HBd HTd HFd HCd hHeld ⊢
  have HP := Lib.hid (p_deliver HTd.out E.out HX.out HBD.out)
  clear HB0 HT0 HF0 HC0
  refine wpAnyH_take (i := 0) (oi := { dst := some 139, op := Go.Op.move (Go.Operand.tmp 0), type := 37, pos := "law.go:77", after := #[], guard := none }) (v := ?_) rfl (by kernel_rfl) (by kernel_rfl) (by kernel_rfl) (fun _ _ _ h => h) (Or.inl ⟨by rfl, ?_⟩) (by assumption) ?_
  rotate_left
  · (intro w0 hSw; (try dsimp only at hSw); go_split_ands; go_simp; with_reducible rfl)
  try simp only [Act.put, List.setIfInBounds_toArray, List.set_cons_zero, List.set_cons_succ]
  refine wpAnyH_take (i := 1) (oi := { dst := some 140, op := Go.Op.fieldAddr 45 (Go.Operand.tmp 9) 1, type := 0, pos := "law.go:77", after := #[], guard := none }) (v := ?_) rfl (by kernel_rfl) (by kernel_rfl) (by kernel_rfl) (fun _ _ _ h => h) (Or.inl ⟨by rfl, ?_⟩) (by assumption) ?_
  rotate_left
  · (intro w0 hSw; (try dsimp only at hSw); go_split_ands; go_simp; with_reducible rfl)
  try simp only [Act.put, List.setIfInBounds_toArray, List.set_cons_zero, List.set_cons_succ]
  refine wpAnyH_take (i := 2) (oi := { dst := some 141, op := Go.Op.load 3 (Go.Operand.tmp 140), type := 3, pos := "law.go:77", after := #[{ on := 1, ground := Go.Ground.data }], guard := none }) (v := ?_) rfl (by kernel_rfl) (by kernel_rfl) (by kernel_rfl) (fun _ _ _ h => h) (Or.inl ⟨by rfl, ?_⟩) (by assumption) ?_
  rotate_left
  · (intro w0 hSw; (try dsimp only at hSw); go_split_ands; go_simp; with_reducible rfl)
  try simp only [Act.put, List.setIfInBounds_toArray, List.set_cons_zero, List.set_cons_succ]
  refine wpAnyH_take (i := 3) (oi := { dst := some 142, op := Go.Op.fieldAddr 45 (Go.Operand.tmp 9) 3, type := 0, pos := "law.go:77", after := #[], guard := none }) (v := ?_) rfl (by kernel_rfl) (by kernel_rfl) (by kernel_rfl) (fun _ _ _ h => h) (Or.inl ⟨by rfl, ?_⟩) (by assumption) ?_
  rotate_left
  · (intro w0 hSw; (try dsimp only at hSw); go_split_ands; go_simp; with_reducible rfl)
  try simp only [Act.put, List.setIfInBounds_toArray, List.set_cons_zero, List.set_cons_succ]
  refine wpAnyH_take (i := 4) (oi := { dst := some 143, op := Go.Op.load 3 (Go.Operand.tmp 142), type := 3, pos := "law.go:77", after := #[{ on := 3, ground := Go.Ground.data }], guard := none }) (v := ?_) rfl (by kernel_rfl) (by kernel_rfl) (by kernel_rfl) (fun _ _ _ h => h) (Or.inl ⟨by rfl, ?_⟩) (by assumption) ?_
  rotate_left
  · (intro w0 hSw; (try dsimp only at hSw); go_split_ands; go_simp; with_reducible rfl)
  try simp only [Act.put, List.setIfInBounds_toArray, List.set_cons_zero, List.set_cons_succ]
  refine wpAnyH_take (i := 6) (oi := { dst := some 145, op := Go.Op.move (Go.Operand.tmp 1), type := 40, pos := "law.go:77", after := #[], guard := none }) (v := ?_) rfl (by kernel_rfl) (by kernel_rfl) (by kernel_rfl) (fun _ _ _ h => h) (Or.inl ⟨by rfl, ?_⟩) (by assumption) ?_
  rotate_left
  · (intro w0 hSw; (try dsimp only at hSw); go_split_ands; go_simp; with_reducible rfl)
  try simp only [Act.put, List.setIfInBounds_toArray, List.set_cons_zero, List.set_cons_succ]
  refine wpAnyH_take (i := 7) (oi := { dst := some 146, op := Go.Op.fieldAddr 45 (Go.Operand.tmp 9) 1, type := 0, pos := "law.go:77", after := #[], guard := none }) (v := ?_) rfl (by kernel_rfl) (by kernel_rfl) (by kernel_rfl) (fun _ _ _ h => h) (Or.inl ⟨by rfl, ?_⟩) (by assumption) ?_
  rotate_left
  · (intro w0 hSw; (try dsimp only at hSw); go_split_ands; go_simp; with_reducible rfl)
  try simp only [Act.put, List.setIfInBounds_toArray, List.set_cons_zero, List.set_cons_succ]
  refine wpAnyH_take (i := 8) (oi := { dst := some 147, op := Go.Op.load 3 (Go.Operand.tmp 146), type := 3, pos := "law.go:77", after := #[{ on := 7, ground := Go.Ground.data }], guard := none }) (v := ?_) rfl (by kernel_rfl) (by kernel_rfl) (by kernel_rfl) (fun _ _ _ h => h) (Or.inl ⟨by rfl, ?_⟩) (by assumption) ?_
  rotate_left
  · (intro w0 hSw; (try dsimp only at hSw); go_split_ands; go_simp; with_reducible rfl)
  try simp only [Act.put, List.setIfInBounds_toArray, List.set_cons_zero, List.set_cons_succ]
  refine wpAnyH_take (i := 9) (oi := { dst := some 148, op := Go.Op.fieldAddr 45 (Go.Operand.tmp 9) 3, type := 0, pos := "law.go:77", after := #[], guard := none }) (v := ?_) rfl (by kernel_rfl) (by kernel_rfl) (by kernel_rfl) (fun _ _ _ h => h) (Or.inl ⟨by rfl, ?_⟩) (by assumption) ?_
  rotate_left
  · (intro w0 hSw; (try dsimp only at hSw); go_split_ands; go_simp; with_reducible rfl)
  try simp only [Act.put, List.setIfInBounds_toArray, List.set_cons_zero, List.set_cons_succ]
  refine wpAnyH_take (i := 10) (oi := { dst := some 149, op := Go.Op.load 3 (Go.Operand.tmp 148), type := 3, pos := "law.go:77", after := #[{ on := 9, ground := Go.Ground.data }], guard := none }) (v := ?_) rfl (by kernel_rfl) (by kernel_rfl) (by kernel_rfl) (fun _ _ _ h => h) (Or.inl ⟨by rfl, ?_⟩) (by assumption) ?_
  rotate_left
  · (intro w0 hSw; (try dsimp only at hSw); go_split_ands; go_simp; with_reducible rfl)
  try simp only [Act.put, List.setIfInBounds_toArray, List.set_cons_zero, List.set_cons_succ]
  refine wpAnyH_ready (rs := [5]) (by kernel_rfl) (by simp) ?_
  refine AllReadyH.cons (o := { dst := some 144, op := Go.Op.call { callee := Go.Callee.value (Go.Operand.func 20), args := #[Go.Operand.tmp 139, Go.Operand.tmp 141, Go.Operand.tmp 143], argTypes := #[37, 3, 3] }, type := 4, pos := "law.go:77", after := #[{ on := 0, ground := Go.Ground.data }, { on := 2, ground := Go.Ground.data }, { on := 4, ground := Go.Ground.data }], guard := none }) rfl (fun K hK => ?_) AllReadyH.nil
  go_simp
  go_at_call 20
  refine HP.out.mono ?_
  rintro e w1 ⟨rfl, V1, ht, hbl, hfr⟩
  obtain ⟨hf1, hh1⟩ := hfr _ HFd.out
  have HT1 := Lib.hid ht
  have HBL1 := Lib.hid hbl
  have HF1 := Lib.hid hf1
  have HC1 := Lib.hid (HCd.out.same hh1)
  have HD := Lib.hid (d_deliver HT1.out HBR.out HX.out)
  clear ht hbl hfr hf1 hh1 HP
  refine hK.out _ _ HC1.out (fun hHeld => ?_)
  clear hK K
  try simp only [Act.put, List.setIfInBounds_toArray, List.set_cons_zero, List.set_cons_succ]
  refine wpAnyH_ready (rs := [11]) (by kernel_rfl) (by simp) ?_
  refine AllReadyH.cons (o := { dst := some 150, op := Go.Op.call { callee := Go.Callee.value (Go.Operand.func 38), args := #[Go.Operand.tmp 145, Go.Operand.tmp 147, Go.Operand.tmp 149], argTypes := #[40, 3, 3] }, type := 4, pos := "law.go:77", after := #[{ on := 6, ground := Go.Ground.data }, { on := 8, ground := Go.Ground.data }, { on := 10, ground := Go.Ground.data }, { on := 5, ground := Go.Ground.chain }], guard := none }) rfl (fun K hK => ?_) AllReadyH.nil
  go_simp
  go_at_call 38
  refine HD.out.mono ?_
  rintro e w2 ⟨rfl, R2, hdd, VR2, ht, hbl, hfr⟩
  obtain ⟨hf2, hh2⟩ := hfr _ HF1.out
  have HT2 := Lib.hid ht
  have HDD := Lib.hid hdd
  have HBL2 : Hid (Below H.lo w w2) := Lib.hid (((HBd.out.mono HLL.out).trans HBL1.out).trans hbl)
  have HC2 := Lib.hid (HC1.out.same hh2)
  clear ht hbl hfr hf2 hh2 HD hdd
  refine hK.out _ _ HC2.out (fun hHeld => ?_)
  clear hK K
  try simp only [Act.put, List.setIfInBounds_toArray, List.set_cons_zero, List.set_cons_succ]
  refine wpAnyH_take (i := 12) (oi := { dst := some 151, op := Go.Op.binOp Go.BinOp.eql 4 (Go.Operand.tmp 144) (Go.Operand.tmp 150) 4, type := 4, pos := "law.go:77", after := #[{ on := 5, ground := Go.Ground.data }, { on := 11, ground := Go.Ground.data }], guard := none }) (v := .bool true) rfl (by kernel_rfl) (by kernel_rfl) (by kernel_rfl) (fun _ _ _ h => h) (Or.inl ⟨by rfl, ?_⟩) (by assumption) ?_
  · (intro w0 hSw; (try dsimp only at hSw); go_split_ands; go_simp)
  try simp only [Act.put, List.setIfInBounds_toArray, List.set_cons_zero, List.set_cons_succ]
  refine wpAnyH_take (i := 13) (oi := { dst := some 10, op := Go.Op.assign (Go.Operand.tmp 151), type := 4, pos := "law.go:77", after := #[{ on := 12, ground := Go.Ground.data }, { on := 11, ground := Go.Ground.chain }, { on := 0, ground := Go.Ground.phase }, { on := 1, ground := Go.Ground.phase }, { on := 2, ground := Go.Ground.phase }, { on := 3, ground := Go.Ground.phase }, { on := 4, ground := Go.Ground.phase }, { on := 5, ground := Go.Ground.phase }, { on := 6, ground := Go.Ground.phase }, { on := 7, ground := Go.Ground.phase }, { on := 8, ground := Go.Ground.phase }, { on := 9, ground := Go.Ground.phase }, { on := 10, ground := Go.Ground.phase }, { on := 11, ground := Go.Ground.phase }, { on := 12, ground := Go.Ground.phase }], guard := none }) (v := ?_) rfl (by kernel_rfl) (by kernel_rfl) (by kernel_rfl) (fun _ _ _ h => h) (Or.inl ⟨by rfl, ?_⟩) (by assumption) ?_
  rotate_left
  · (intro w0 hSw; (try dsimp only at hSw); go_split_ands; go_simp; with_reducible rfl)
  try simp only [Act.put, List.setIfInBounds_toArray, List.set_cons_zero, List.set_cons_succ]
  refine wpAnyH_done (by kernel_rfl) ?_ _
  clear hHeld
  go_wp2
  all_goals
    go_ret
    exact ⟨rfl, ⟨_, _, _, M, by rw [HA.out]; exact HT2.out, by rw [HA.out]; exact E.out.deliver HDD.out, HBK.out.deliver HDD.out, HM2.out⟩, HBL2.out⟩
set_option maxRecDepth 100000 in
set_option maxHeartbeats 4000000 in
theorem step_9 (h : TwC w H V VR S R M) (e : Eqv S R) (hb : Bd K S) (hr : BdR K R) (hK : K < 200) (hM : Cfg2 M) (hx : NxOk x) (hop : x.op = 9) : Calls Try.prog 12 (argS H x) w (StepEnd w H V VR S K M x) := by
  have HA : Hid (S.act M x = S.sync x.core) := Lib.hid (by unfold Sd.act; rw [if_neg (by rw [hop]; decide)]; rw [if_neg (by rw [hop]; decide)]; rw [if_neg (by rw [hop]; decide)]; rw [if_neg (by rw [hop]; decide)]; rw [if_neg (by rw [hop]; decide)]; rw [if_neg (by rw [hop]; decide)]; rw [if_neg (by rw [hop]; decide)]; rw [if_neg (by rw [hop]; decide)]; rw [if_pos hop])
  have hN : S.N < 1000000000 := by have := hb.n; omega
  have HN := Lib.hid hN
  have hb2 : Bd 200 S := ⟨by have := hb.n; omega, fun d hd => by have := hb.l d hd; omega, hb.y⟩
  have HBD := Lib.hid hb2
  have HBR := Lib.hid (hr.more (K' := 200) (by omega))
  have HBK := Lib.hid hr
  have E := Lib.hid e
  have HX := Lib.hid hx
  have HM2 := Lib.hid hM
  have HMC := Lib.hid hM.cfg
  have q1 : (x.op == 1) = false := by rw [hop]; decide
  have q2 : (x.op == 2) = false := by rw [hop]; decide
  have q3 : (x.op == 3) = false := by rw [hop]; decide
  have q4 : (x.op == 4) = false := by rw [hop]; decide
  have q5 : (x.op == 5) = false := by rw [hop]; decide
  have q6 : (x.op == 6) = false := by rw [hop]; decide
  have q7 : (x.op == 7) = false := by rw [hop]; decide
  have q8 : (x.op == 8) = false := by rw [hop]; decide
  have q9 : (x.op == 9) = true := by rw [hop]; decide
  have hbx : Below w.heap.size w (w.alloc (.cells #[.int .i64 x.op, .int .i64 x.core, .int .u64 (x.ad : Nat), .int .i64 x.N, .int .u64 (x.v : Nat)] 45)) := (Below.refl _ _).alloc (Nat.le_refl _) _
  have HB0 := Lib.hid hbx
  have HT0 := Lib.hid (h.past hbx)
  have HF0 : Hid (Fre (w.alloc (.cells #[.int .i64 x.op, .int .i64 x.core, .int .u64 (x.ad : Nat), .int .i64 x.N, .int .u64 (x.v : Nat)] 45)) H V VR S.n w.heap.size) := Lib.hid h.fresh
  have HC0 : Hid (BxC (w.alloc (.cells #[.int .i64 x.op, .int .i64 x.core, .int .u64 (x.ad : Nat), .int .i64 x.N, .int .u64 (x.v : Nat)] 45)) w.heap.size x) := Lib.hid ⟨World.cell?_alloc_at _ _ _ _ rfl, World.cell?_alloc_at _ _ _ _ rfl, World.cell?_alloc_at _ _ _ _ rfl, World.cell?_alloc_at _ _ _ _ rfl, World.cell?_alloc_at _ _ _ _ rfl⟩
  have HLL := Lib.hid h.lol
  clear h e hb hb2 hr hx hM hop hN hbx
  unfold argS
  go_enter Try.func12, Try.ntmps12
  go_upto_region 22 with (fail)
  have HBd : Hid (Below w.heap.size w (w.alloc (.cells #[.int .i64 x.op, .int .i64 x.core, .int .u64 (x.ad : Nat), .int .i64 x.N, .int .u64 (x.v : Nat)] 45)).drew) := Lib.hid (below_drewN HB0.out 1)
  have HTd := Lib.hid (HT0.out.past (below_drewN (Below.refl _ _) 1))
  have HFd : Hid (Fre (w.alloc (.cells #[.int .i64 x.op, .int .i64 x.core, .int .u64 (x.ad : Nat), .int .i64 x.N, .int .u64 (x.v : Nat)] 45)).drew H V VR S.n w.heap.size) := Lib.hid (HF0.out.past (Nat.le_refl _))
  have HCd : Hid (BxC (w.alloc (.cells #[.int .i64 x.op, .int .i64 x.core, .int .u64 (x.ad : Nat), .int .i64 x.N, .int .u64 (x.v : Nat)] 45)).drew w.heap.size x) := Lib.hid (HC0.out.same rfl)
  have HTd : Hid (TwC (w.alloc (.cells #[.int .i64 x.op, .int .i64 x.core, .int .u64 (x.ad : Nat), .int .i64 x.N, .int .u64 (x.v : Nat)] 45)).drew H V VR S R M) := HTd
  refine wp_region_held_drew (S := fun w' => (w'.cell? ⟨w.heap.size, 0, none⟩ = some (.int .i64 x.op) ∧ w'.cell? ⟨w.heap.size, 1, none⟩ = some (.int .i64 x.core) ∧ w'.cell? ⟨w.heap.size, 2, none⟩ = some (.int .u64 (x.ad : Nat)) ∧ w'.cell? ⟨w.heap.size, 3, none⟩ = some (.int .i64 x.N) ∧ w'.cell? ⟨w.heap.size, 4, none⟩ = some (.int .u64 (x.v : Nat)))) (by kernel_rfl) HCd.out (fun hHeld => ?_)
  generalize (w.alloc (.cells #[.int .i64 x.op, .int .i64 x.core, .int .u64 (x.ad : Nat), .int .i64 x.N, .int .u64 (x.v : Nat)] 45)).drew = V0 at HBd HTd HFd HCd hHeld ⊢
  have HP := Lib.hid (p_sync HTd.out E.out x.core)
  clear HB0 HT0 HF0 HC0
  refine wpAnyH_take (i := 0) (oi := { dst := some 154, op := Go.Op.move (Go.Operand.tmp 0), type := 37, pos := "law.go:79", after := #[], guard := none }) (v := ?_) rfl (by kernel_rfl) (by kernel_rfl) (by kernel_rfl) (fun _ _ _ h => h) (Or.inl ⟨by rfl, ?_⟩) (by assumption) ?_
  rotate_left
  · (intro w0 hSw; (try dsimp only at hSw); go_split_ands; go_simp; with_reducible rfl)
  try simp only [Act.put, List.setIfInBounds_toArray, List.set_cons_zero, List.set_cons_succ]
  refine wpAnyH_take (i := 1) (oi := { dst := some 155, op := Go.Op.fieldAddr 45 (Go.Operand.tmp 9) 1, type := 0, pos := "law.go:79", after := #[], guard := none }) (v := ?_) rfl (by kernel_rfl) (by kernel_rfl) (by kernel_rfl) (fun _ _ _ h => h) (Or.inl ⟨by rfl, ?_⟩) (by assumption) ?_
  rotate_left
  · (intro w0 hSw; (try dsimp only at hSw); go_split_ands; go_simp; with_reducible rfl)
  try simp only [Act.put, List.setIfInBounds_toArray, List.set_cons_zero, List.set_cons_succ]
  refine wpAnyH_take (i := 2) (oi := { dst := some 156, op := Go.Op.load 3 (Go.Operand.tmp 155), type := 3, pos := "law.go:79", after := #[{ on := 1, ground := Go.Ground.data }], guard := none }) (v := ?_) rfl (by kernel_rfl) (by kernel_rfl) (by kernel_rfl) (fun _ _ _ h => h) (Or.inl ⟨by rfl, ?_⟩) (by assumption) ?_
  rotate_left
  · (intro w0 hSw; (try dsimp only at hSw); go_split_ands; go_simp; with_reducible rfl)
  try simp only [Act.put, List.setIfInBounds_toArray, List.set_cons_zero, List.set_cons_succ]
  refine wpAnyH_take (i := 4) (oi := { dst := some 158, op := Go.Op.move (Go.Operand.tmp 1), type := 40, pos := "law.go:79", after := #[], guard := none }) (v := ?_) rfl (by kernel_rfl) (by kernel_rfl) (by kernel_rfl) (fun _ _ _ h => h) (Or.inl ⟨by rfl, ?_⟩) (by assumption) ?_
  rotate_left
  · (intro w0 hSw; (try dsimp only at hSw); go_split_ands; go_simp; with_reducible rfl)
  try simp only [Act.put, List.setIfInBounds_toArray, List.set_cons_zero, List.set_cons_succ]
  refine wpAnyH_take (i := 5) (oi := { dst := some 159, op := Go.Op.fieldAddr 45 (Go.Operand.tmp 9) 1, type := 0, pos := "law.go:79", after := #[], guard := none }) (v := ?_) rfl (by kernel_rfl) (by kernel_rfl) (by kernel_rfl) (fun _ _ _ h => h) (Or.inl ⟨by rfl, ?_⟩) (by assumption) ?_
  rotate_left
  · (intro w0 hSw; (try dsimp only at hSw); go_split_ands; go_simp; with_reducible rfl)
  try simp only [Act.put, List.setIfInBounds_toArray, List.set_cons_zero, List.set_cons_succ]
  refine wpAnyH_take (i := 6) (oi := { dst := some 160, op := Go.Op.load 3 (Go.Operand.tmp 159), type := 3, pos := "law.go:79", after := #[{ on := 5, ground := Go.Ground.data }], guard := none }) (v := ?_) rfl (by kernel_rfl) (by kernel_rfl) (by kernel_rfl) (fun _ _ _ h => h) (Or.inl ⟨by rfl, ?_⟩) (by assumption) ?_
  rotate_left
  · (intro w0 hSw; (try dsimp only at hSw); go_split_ands; go_simp; with_reducible rfl)
  try simp only [Act.put, List.setIfInBounds_toArray, List.set_cons_zero, List.set_cons_succ]
  refine wpAnyH_ready (rs := [3]) (by kernel_rfl) (by simp) ?_
  refine AllReadyH.cons (o := { dst := some 157, op := Go.Op.call { callee := Go.Callee.value (Go.Operand.func 39), args := #[Go.Operand.tmp 154, Go.Operand.tmp 156], argTypes := #[37, 3] }, type := 26, pos := "law.go:79", after := #[{ on := 0, ground := Go.Ground.data }, { on := 2, ground := Go.Ground.data }], guard := none }) rfl (fun K hK => ?_) AllReadyH.nil
  go_simp
  go_at_call 39
  refine HP.out.mono ?_
  rintro e w1 ⟨rfl, V1, ht, hbl, hfr⟩
  obtain ⟨hf1, hh1⟩ := hfr _ HFd.out
  have HT1 := Lib.hid ht
  have HBL1 := Lib.hid hbl
  have HF1 := Lib.hid hf1
  have HC1 := Lib.hid (HCd.out.same hh1)
  have HD := Lib.hid (d_sync HT1.out x.core)
  clear ht hbl hfr hf1 hh1 HP
  refine hK.out _ _ HC1.out (fun hHeld => ?_)
  clear hK K
  try simp only [Act.put, List.setIfInBounds_toArray, List.set_cons_zero, List.set_cons_succ]
  refine wpAnyH_ready (rs := [7]) (by kernel_rfl) (by simp) ?_
  refine AllReadyH.cons (o := { dst := some 161, op := Go.Op.call { callee := Go.Callee.value (Go.Operand.func 40), args := #[Go.Operand.tmp 158, Go.Operand.tmp 160], argTypes := #[40, 3] }, type := 3, pos := "law.go:79", after := #[{ on := 4, ground := Go.Ground.data }, { on := 6, ground := Go.Ground.data }, { on := 3, ground := Go.Ground.chain }], guard := none }) rfl (fun K hK => ?_) AllReadyH.nil
  go_simp
  go_at_call 40
  refine HD.out.mono ?_
  rintro e w2 ⟨rfl, VR2, ht, hbl, hfr⟩
  obtain ⟨hf2, hh2⟩ := hfr _ HF1.out
  have HT2 := Lib.hid ht
  have HBL2 : Hid (Below H.lo w w2) := Lib.hid (((HBd.out.mono HLL.out).trans HBL1.out).trans hbl)
  have HC2 := Lib.hid (HC1.out.same hh2)
  clear ht hbl hfr hf2 hh2 HD
  refine hK.out _ _ HC2.out (fun hHeld => ?_)
  clear hK K
  try simp only [Act.put, List.setIfInBounds_toArray, List.set_cons_zero, List.set_cons_succ]
  refine wpAnyH_take (i := 8) (oi := { dst := some 162, op := Go.Op.binOp Go.BinOp.eql 3 (Go.Operand.tmp 157) (Go.Operand.tmp 161) 3, type := 4, pos := "law.go:79", after := #[{ on := 3, ground := Go.Ground.data }, { on := 7, ground := Go.Ground.data }], guard := none }) (v := .bool true) rfl (by kernel_rfl) (by kernel_rfl) (by kernel_rfl) (fun _ _ _ h => h) (Or.inl ⟨by rfl, ?_⟩) (by assumption) ?_
  · (intro w0 hSw; (try dsimp only at hSw); go_split_ands; go_simp)
  try simp only [Act.put, List.setIfInBounds_toArray, List.set_cons_zero, List.set_cons_succ]
  refine wpAnyH_take (i := 9) (oi := { dst := some 10, op := Go.Op.assign (Go.Operand.tmp 162), type := 4, pos := "law.go:79", after := #[{ on := 8, ground := Go.Ground.data }, { on := 7, ground := Go.Ground.chain }, { on := 0, ground := Go.Ground.phase }, { on := 1, ground := Go.Ground.phase }, { on := 2, ground := Go.Ground.phase }, { on := 3, ground := Go.Ground.phase }, { on := 4, ground := Go.Ground.phase }, { on := 5, ground := Go.Ground.phase }, { on := 6, ground := Go.Ground.phase }, { on := 7, ground := Go.Ground.phase }, { on := 8, ground := Go.Ground.phase }], guard := none }) (v := ?_) rfl (by kernel_rfl) (by kernel_rfl) (by kernel_rfl) (fun _ _ _ h => h) (Or.inl ⟨by rfl, ?_⟩) (by assumption) ?_
  rotate_left
  · (intro w0 hSw; (try dsimp only at hSw); go_split_ands; go_simp; with_reducible rfl)
  try simp only [Act.put, List.setIfInBounds_toArray, List.set_cons_zero, List.set_cons_succ]
  refine wpAnyH_done (by kernel_rfl) ?_ _
  clear hHeld
  go_wp2
  all_goals
    go_ret
    exact ⟨rfl, ⟨_, _, _, M, by rw [HA.out]; exact HT2.out, by rw [HA.out]; exact E.out.sync x.core, HBK.out.sync x.core, HM2.out⟩, HBL2.out⟩
set_option maxRecDepth 100000 in
set_option maxHeartbeats 4000000 in
theorem step_10 (h : TwC w H V VR S R M) (e : Eqv S R) (hb : Bd K S) (hr : BdR K R) (hK : K < 200) (hM : Cfg2 M) (hx : NxOk x) (hop : x.op = 10) : Calls Try.prog 12 (argS H x) w (StepEnd w H V VR S K M x) := by
  have HA : Hid (S.act M x = S) := Lib.hid (by unfold Sd.act; rw [if_neg (by rw [hop]; decide)]; rw [if_neg (by rw [hop]; decide)]; rw [if_neg (by rw [hop]; decide)]; rw [if_neg (by rw [hop]; decide)]; rw [if_neg (by rw [hop]; decide)]; rw [if_neg (by rw [hop]; decide)]; rw [if_neg (by rw [hop]; decide)]; rw [if_neg (by rw [hop]; decide)]; rw [if_neg (by rw [hop]; decide)])
  have hN : S.N < 1000000000 := by have := hb.n; omega
  have HN := Lib.hid hN
  have hb2 : Bd 200 S := ⟨by have := hb.n; omega, fun d hd => by have := hb.l d hd; omega, hb.y⟩
  have HBD := Lib.hid hb2
  have HBR := Lib.hid (hr.more (K' := 200) (by omega))
  have HBK := Lib.hid hr
  have E := Lib.hid e
  have HX := Lib.hid hx
  have HM2 := Lib.hid hM
  have HMC := Lib.hid hM.cfg
  have q1 : (x.op == 1) = false := by rw [hop]; decide
  have q2 : (x.op == 2) = false := by rw [hop]; decide
  have q3 : (x.op == 3) = false := by rw [hop]; decide
  have q4 : (x.op == 4) = false := by rw [hop]; decide
  have q5 : (x.op == 5) = false := by rw [hop]; decide
  have q6 : (x.op == 6) = false := by rw [hop]; decide
  have q7 : (x.op == 7) = false := by rw [hop]; decide
  have q8 : (x.op == 8) = false := by rw [hop]; decide
  have q9 : (x.op == 9) = false := by rw [hop]; decide
  have q10 : (x.op == 10) = true := by rw [hop]; decide
  have hbx : Below w.heap.size w (w.alloc (.cells #[.int .i64 x.op, .int .i64 x.core, .int .u64 (x.ad : Nat), .int .i64 x.N, .int .u64 (x.v : Nat)] 45)) := (Below.refl _ _).alloc (Nat.le_refl _) _
  have HB0 := Lib.hid hbx
  have HT0 := Lib.hid (h.past hbx)
  have HF0 : Hid (Fre (w.alloc (.cells #[.int .i64 x.op, .int .i64 x.core, .int .u64 (x.ad : Nat), .int .i64 x.N, .int .u64 (x.v : Nat)] 45)) H V VR S.n w.heap.size) := Lib.hid h.fresh
  have HC0 : Hid (BxC (w.alloc (.cells #[.int .i64 x.op, .int .i64 x.core, .int .u64 (x.ad : Nat), .int .i64 x.N, .int .u64 (x.v : Nat)] 45)) w.heap.size x) := Lib.hid ⟨World.cell?_alloc_at _ _ _ _ rfl, World.cell?_alloc_at _ _ _ _ rfl, World.cell?_alloc_at _ _ _ _ rfl, World.cell?_alloc_at _ _ _ _ rfl, World.cell?_alloc_at _ _ _ _ rfl⟩
  have HLL := Lib.hid h.lol
  clear h e hb hb2 hr hx hM hop hN hbx
  unfold argS
  go_enter Try.func12, Try.ntmps12
  go_upto_region 24 with (fail)
  have HBd : Hid (Below w.heap.size w (w.alloc (.cells #[.int .i64 x.op, .int .i64 x.core, .int .u64 (x.ad : Nat), .int .i64 x.N, .int .u64 (x.v : Nat)] 45)).drew) := Lib.hid (below_drewN HB0.out 1)
  have HTd : Hid (TwC (w.alloc (.cells #[.int .i64 x.op, .int .i64 x.core, .int .u64 (x.ad : Nat), .int .i64 x.N, .int .u64 (x.v : Nat)] 45)).drew H V VR S R M) := Lib.hid (HT0.out.past (below_drewN (Below.refl _ _) 1))
  have HFd : Hid (Fre (w.alloc (.cells #[.int .i64 x.op, .int .i64 x.core, .int .u64 (x.ad : Nat), .int .i64 x.N, .int .u64 (x.v : Nat)] 45)).drew H V VR S.n w.heap.size) := Lib.hid (HF0.out.past (Nat.le_refl _))
  have HCd : Hid (BxC (w.alloc (.cells #[.int .i64 x.op, .int .i64 x.core, .int .u64 (x.ad : Nat), .int .i64 x.N, .int .u64 (x.v : Nat)] 45)).drew w.heap.size x) := Lib.hid (HC0.out.same rfl)
  refine wp_region_held_drew (S := fun w' => (w'.cell? ⟨w.heap.size, 0, none⟩ = some (.int .i64 x.op) ∧ w'.cell? ⟨w.heap.size, 1, none⟩ = some (.int .i64 x.core) ∧ w'.cell? ⟨w.heap.size, 2, none⟩ = some (.int .u64 (x.ad : Nat)) ∧ w'.cell? ⟨w.heap.size, 3, none⟩ = some (.int .i64 x.N) ∧ w'.cell? ⟨w.heap.size, 4, none⟩ = some (.int .u64 (x.v : Nat)))) (by kernel_rfl) HCd.out (fun hHeld => ?_)
  generalize (w.alloc (.cells #[.int .i64 x.op, .int .i64 x.core, .int .u64 (x.ad : Nat), .int .i64 x.N, .int .u64 (x.v : Nat)] 45)).drew = V0 at HBd HTd HFd HCd hHeld ⊢
  obtain ⟨rr, M', hM', hp⟩ := bo_write2 V0 H.F1 H.F2 H.pm H.px M HTd.out.bo x.ad x.v HX.out.k.2.2 HX.out.v
  have HP := Lib.hid hp
  have HM' : Hid (Cfg2 M') := Lib.hid (by rcases hM' with rfl | ⟨k, o, l, rfl⟩; exact HM2.out; exact ld_cfg2 HM2.out o l k)
  clear HB0 HT0 HF0 HC0 hM' hp
  refine wpAnyH_take (i := 0) (oi := { dst := some 165, op := Go.Op.move (Go.Operand.tmp 2), type := 25, pos := "law.go:81", after := #[], guard := none }) (v := ?_) rfl (by kernel_rfl) (by kernel_rfl) (by kernel_rfl) (fun _ _ _ h => h) (Or.inl ⟨by rfl, ?_⟩) (by assumption) ?_
  rotate_left
  · (intro w0 hSw; (try dsimp only at hSw); go_split_ands; go_simp; with_reducible rfl)
  try simp only [Act.put, List.setIfInBounds_toArray, List.set_cons_zero, List.set_cons_succ]
  refine wpAnyH_take (i := 1) (oi := { dst := some 166, op := Go.Op.fieldAddr 45 (Go.Operand.tmp 9) 2, type := 0, pos := "law.go:81", after := #[], guard := none }) (v := ?_) rfl (by kernel_rfl) (by kernel_rfl) (by kernel_rfl) (fun _ _ _ h => h) (Or.inl ⟨by rfl, ?_⟩) (by assumption) ?_
  rotate_left
  · (intro w0 hSw; (try dsimp only at hSw); go_split_ands; go_simp; with_reducible rfl)
  try simp only [Act.put, List.setIfInBounds_toArray, List.set_cons_zero, List.set_cons_succ]
  refine wpAnyH_take (i := 2) (oi := { dst := some 167, op := Go.Op.load 35 (Go.Operand.tmp 166), type := 35, pos := "law.go:81", after := #[{ on := 1, ground := Go.Ground.data }], guard := none }) (v := ?_) rfl (by kernel_rfl) (by kernel_rfl) (by kernel_rfl) (fun _ _ _ h => h) (Or.inl ⟨by rfl, ?_⟩) (by assumption) ?_
  rotate_left
  · (intro w0 hSw; (try dsimp only at hSw); go_split_ands; go_simp; with_reducible rfl)
  try simp only [Act.put, List.setIfInBounds_toArray, List.set_cons_zero, List.set_cons_succ]
  refine wpAnyH_take (i := 3) (oi := { dst := some 168, op := Go.Op.fieldAddr 45 (Go.Operand.tmp 9) 4, type := 0, pos := "law.go:81", after := #[], guard := none }) (v := ?_) rfl (by kernel_rfl) (by kernel_rfl) (by kernel_rfl) (fun _ _ _ h => h) (Or.inl ⟨by rfl, ?_⟩) (by assumption) ?_
  rotate_left
  · (intro w0 hSw; (try dsimp only at hSw); go_split_ands; go_simp; with_reducible rfl)
  try simp only [Act.put, List.setIfInBounds_toArray, List.set_cons_zero, List.set_cons_succ]
  refine wpAnyH_take (i := 4) (oi := { dst := some 169, op := Go.Op.load 35 (Go.Operand.tmp 168), type := 35, pos := "law.go:81", after := #[{ on := 3, ground := Go.Ground.data }], guard := none }) (v := ?_) rfl (by kernel_rfl) (by kernel_rfl) (by kernel_rfl) (fun _ _ _ h => h) (Or.inl ⟨by rfl, ?_⟩) (by assumption) ?_
  rotate_left
  · (intro w0 hSw; (try dsimp only at hSw); go_split_ands; go_simp; with_reducible rfl)
  try simp only [Act.put, List.setIfInBounds_toArray, List.set_cons_zero, List.set_cons_succ]
  refine wpAnyH_take (i := 6) (oi := { dst := some 171, op := Go.Op.move (Go.Operand.tmp 3), type := 31, pos := "law.go:81", after := #[], guard := none }) (v := ?_) rfl (by kernel_rfl) (by kernel_rfl) (by kernel_rfl) (fun _ _ _ h => h) (Or.inl ⟨by rfl, ?_⟩) (by assumption) ?_
  rotate_left
  · (intro w0 hSw; (try dsimp only at hSw); go_split_ands; go_simp; with_reducible rfl)
  try simp only [Act.put, List.setIfInBounds_toArray, List.set_cons_zero, List.set_cons_succ]
  refine wpAnyH_take (i := 7) (oi := { dst := some 172, op := Go.Op.fieldAddr 45 (Go.Operand.tmp 9) 2, type := 0, pos := "law.go:81", after := #[], guard := none }) (v := ?_) rfl (by kernel_rfl) (by kernel_rfl) (by kernel_rfl) (fun _ _ _ h => h) (Or.inl ⟨by rfl, ?_⟩) (by assumption) ?_
  rotate_left
  · (intro w0 hSw; (try dsimp only at hSw); go_split_ands; go_simp; with_reducible rfl)
  try simp only [Act.put, List.setIfInBounds_toArray, List.set_cons_zero, List.set_cons_succ]
  refine wpAnyH_take (i := 8) (oi := { dst := some 173, op := Go.Op.load 35 (Go.Operand.tmp 172), type := 35, pos := "law.go:81", after := #[{ on := 7, ground := Go.Ground.data }], guard := none }) (v := ?_) rfl (by kernel_rfl) (by kernel_rfl) (by kernel_rfl) (fun _ _ _ h => h) (Or.inl ⟨by rfl, ?_⟩) (by assumption) ?_
  rotate_left
  · (intro w0 hSw; (try dsimp only at hSw); go_split_ands; go_simp; with_reducible rfl)
  try simp only [Act.put, List.setIfInBounds_toArray, List.set_cons_zero, List.set_cons_succ]
  refine wpAnyH_take (i := 9) (oi := { dst := some 174, op := Go.Op.fieldAddr 45 (Go.Operand.tmp 9) 4, type := 0, pos := "law.go:81", after := #[], guard := none }) (v := ?_) rfl (by kernel_rfl) (by kernel_rfl) (by kernel_rfl) (fun _ _ _ h => h) (Or.inl ⟨by rfl, ?_⟩) (by assumption) ?_
  rotate_left
  · (intro w0 hSw; (try dsimp only at hSw); go_split_ands; go_simp; with_reducible rfl)
  try simp only [Act.put, List.setIfInBounds_toArray, List.set_cons_zero, List.set_cons_succ]
  refine wpAnyH_take (i := 10) (oi := { dst := some 175, op := Go.Op.load 35 (Go.Operand.tmp 174), type := 35, pos := "law.go:81", after := #[{ on := 9, ground := Go.Ground.data }], guard := none }) (v := ?_) rfl (by kernel_rfl) (by kernel_rfl) (by kernel_rfl) (fun _ _ _ h => h) (Or.inl ⟨by rfl, ?_⟩) (by assumption) ?_
  rotate_left
  · (intro w0 hSw; (try dsimp only at hSw); go_split_ands; go_simp; with_reducible rfl)
  try simp only [Act.put, List.setIfInBounds_toArray, List.set_cons_zero, List.set_cons_succ]
  refine wpAnyH_ready (rs := [5]) (by kernel_rfl) (by simp) ?_
  refine AllReadyH.cons (o := { dst := some 170, op := Go.Op.call { callee := Go.Callee.value (Go.Operand.func 15), args := #[Go.Operand.tmp 165, Go.Operand.tmp 167, Go.Operand.tmp 169], argTypes := #[25, 35, 35] }, type := 26, pos := "law.go:81", after := #[{ on := 0, ground := Go.Ground.data }, { on := 2, ground := Go.Ground.data }, { on := 4, ground := Go.Ground.data }], guard := none }) rfl (fun K hK => ?_) AllReadyH.nil
  go_simp
  go_at_call 15
  refine HP.out.mono ?_
  rintro e w1 ⟨rfl, hk1, _, hd⟩
  have HD := Lib.hid hd
  have HC1 := Lib.hid (HCd.out.same (hk1.block _ HFd.out.1 HFd.out.2.2.2.1))
  clear hd HP hk1
  refine hK.out _ _ HC1.out (fun hHeld => ?_)
  clear hK K
  try simp only [Act.put, List.setIfInBounds_toArray, List.set_cons_zero, List.set_cons_succ]
  refine wpAnyH_ready (rs := [11]) (by kernel_rfl) (by simp) ?_
  refine AllReadyH.cons (o := { dst := some 176, op := Go.Op.call { callee := Go.Callee.value (Go.Operand.func 41), args := #[Go.Operand.tmp 171, Go.Operand.tmp 173, Go.Operand.tmp 175], argTypes := #[31, 35, 35] }, type := 3, pos := "law.go:81", after := #[{ on := 6, ground := Go.Ground.data }, { on := 8, ground := Go.Ground.data }, { on := 10, ground := Go.Ground.data }, { on := 5, ground := Go.Ground.chain }], guard := none }) rfl (fun K hK => ?_) AllReadyH.nil
  go_simp
  go_at_call 41
  refine HD.out.mono ?_
  rintro e w2 ⟨rfl, hbo, hk2⟩
  have HC2 := Lib.hid (HCd.out.same (hk2.block _ HFd.out.1 (fun hf => hf.elim HFd.out.2.2.2.1 HFd.out.2.2.2.2)))
  obtain ⟨ht, hbl⟩ := HTd.out.m hbo hk2
  have HT2 := Lib.hid ht
  have HBL2 : Hid (Below H.lo w w2) := Lib.hid ((HBd.out.mono HLL.out).trans hbl)
  clear ht hbl hbo hk2 HD
  refine hK.out _ _ HC2.out (fun hHeld => ?_)
  clear hK K
  try simp only [Act.put, List.setIfInBounds_toArray, List.set_cons_zero, List.set_cons_succ]
  refine wpAnyH_take (i := 12) (oi := { dst := some 177, op := Go.Op.binOp Go.BinOp.eql 3 (Go.Operand.tmp 170) (Go.Operand.tmp 176) 3, type := 4, pos := "law.go:81", after := #[{ on := 5, ground := Go.Ground.data }, { on := 11, ground := Go.Ground.data }], guard := none }) (v := .bool true) rfl (by kernel_rfl) (by kernel_rfl) (by kernel_rfl) (fun _ _ _ h => h) (Or.inl ⟨by rfl, ?_⟩) (by assumption) ?_
  · (intro w0 hSw; (try dsimp only at hSw); go_split_ands; go_simp)
  try simp only [Act.put, List.setIfInBounds_toArray, List.set_cons_zero, List.set_cons_succ]
  refine wpAnyH_take (i := 13) (oi := { dst := some 10, op := Go.Op.assign (Go.Operand.tmp 177), type := 4, pos := "law.go:81", after := #[{ on := 12, ground := Go.Ground.data }, { on := 11, ground := Go.Ground.chain }, { on := 0, ground := Go.Ground.phase }, { on := 1, ground := Go.Ground.phase }, { on := 2, ground := Go.Ground.phase }, { on := 3, ground := Go.Ground.phase }, { on := 4, ground := Go.Ground.phase }, { on := 5, ground := Go.Ground.phase }, { on := 6, ground := Go.Ground.phase }, { on := 7, ground := Go.Ground.phase }, { on := 8, ground := Go.Ground.phase }, { on := 9, ground := Go.Ground.phase }, { on := 10, ground := Go.Ground.phase }, { on := 11, ground := Go.Ground.phase }, { on := 12, ground := Go.Ground.phase }], guard := none }) (v := ?_) rfl (by kernel_rfl) (by kernel_rfl) (by kernel_rfl) (fun _ _ _ h => h) (Or.inl ⟨by rfl, ?_⟩) (by assumption) ?_
  rotate_left
  · (intro w0 hSw; (try dsimp only at hSw); go_split_ands; go_simp; with_reducible rfl)
  try simp only [Act.put, List.setIfInBounds_toArray, List.set_cons_zero, List.set_cons_succ]
  refine wpAnyH_done (by kernel_rfl) ?_ _
  clear hHeld
  go_wp2
  go_ret
  exact ⟨rfl, ⟨_, _, _, M', by rw [HA.out]; exact HT2.out, by rw [HA.out]; exact E.out, HBK.out.more (Nat.le_succ _), HM'.out⟩, HBL2.out⟩
set_option maxRecDepth 100000 in
set_option maxHeartbeats 4000000 in
theorem step_11 (h : TwC w H V VR S R M) (e : Eqv S R) (hb : Bd K S) (hr : BdR K R) (hK : K < 200) (hM : Cfg2 M) (hx : NxOk x) (hop : x.op ≠ 1 ∧ x.op ≠ 2 ∧ x.op ≠ 3 ∧ x.op ≠ 4 ∧ x.op ≠ 5 ∧ x.op ≠ 6 ∧ x.op ≠ 7 ∧ x.op ≠ 8 ∧ x.op ≠ 9 ∧ x.op ≠ 10) : Calls Try.prog 12 (argS H x) w (StepEnd w H V VR S K M x) := by
  have HA : Hid (S.act M x = S) := Lib.hid (by unfold Sd.act; obtain ⟨p1, p2, p3, p4, p5, p6, p7, p8, p9, p10⟩ := hop; rw [if_neg p1, if_neg p2, if_neg p3, if_neg p4, if_neg p5, if_neg p6, if_neg p7, if_neg p8, if_neg p9])
  have hN : S.N < 1000000000 := by have := hb.n; omega
  have HN := Lib.hid hN
  have hb2 : Bd 200 S := ⟨by have := hb.n; omega, fun d hd => by have := hb.l d hd; omega, hb.y⟩
  have HBD := Lib.hid hb2
  have HBR := Lib.hid (hr.more (K' := 200) (by omega))
  have HBK := Lib.hid hr
  have E := Lib.hid e
  have HX := Lib.hid hx
  have HM2 := Lib.hid hM
  have HMC := Lib.hid hM.cfg
  have q1 : (x.op == 1) = false := by rw [beq_eq_false_iff_ne]; exact hop.1
  have q2 : (x.op == 2) = false := by rw [beq_eq_false_iff_ne]; exact hop.2.1
  have q3 : (x.op == 3) = false := by rw [beq_eq_false_iff_ne]; exact hop.2.2.1
  have q4 : (x.op == 4) = false := by rw [beq_eq_false_iff_ne]; exact hop.2.2.2.1
  have q5 : (x.op == 5) = false := by rw [beq_eq_false_iff_ne]; exact hop.2.2.2.2.1
  have q6 : (x.op == 6) = false := by rw [beq_eq_false_iff_ne]; exact hop.2.2.2.2.2.1
  have q7 : (x.op == 7) = false := by rw [beq_eq_false_iff_ne]; exact hop.2.2.2.2.2.2.1
  have q8 : (x.op == 8) = false := by rw [beq_eq_false_iff_ne]; exact hop.2.2.2.2.2.2.2.1
  have q9 : (x.op == 9) = false := by rw [beq_eq_false_iff_ne]; exact hop.2.2.2.2.2.2.2.2.1
  have q10 : (x.op == 10) = false := by rw [beq_eq_false_iff_ne]; exact hop.2.2.2.2.2.2.2.2.2
  have hbx : Below w.heap.size w (w.alloc (.cells #[.int .i64 x.op, .int .i64 x.core, .int .u64 (x.ad : Nat), .int .i64 x.N, .int .u64 (x.v : Nat)] 45)) := (Below.refl _ _).alloc (Nat.le_refl _) _
  have HB0 := Lib.hid hbx
  have HT0 := Lib.hid (h.past hbx)
  have HF0 : Hid (Fre (w.alloc (.cells #[.int .i64 x.op, .int .i64 x.core, .int .u64 (x.ad : Nat), .int .i64 x.N, .int .u64 (x.v : Nat)] 45)) H V VR S.n w.heap.size) := Lib.hid h.fresh
  have HC0 : Hid (BxC (w.alloc (.cells #[.int .i64 x.op, .int .i64 x.core, .int .u64 (x.ad : Nat), .int .i64 x.N, .int .u64 (x.v : Nat)] 45)) w.heap.size x) := Lib.hid ⟨World.cell?_alloc_at _ _ _ _ rfl, World.cell?_alloc_at _ _ _ _ rfl, World.cell?_alloc_at _ _ _ _ rfl, World.cell?_alloc_at _ _ _ _ rfl, World.cell?_alloc_at _ _ _ _ rfl⟩
  have HLL := Lib.hid h.lol
  clear h e hb hb2 hr hx hM hop hN hbx
  unfold argS
  go_enter Try.func12, Try.ntmps12
  obtain ⟨c0, c1, c2, c3, c4⟩ := HC0.out
  go_wp2
  go_ret
  exact ⟨rfl, ⟨V, VR, R, M, by rw [HA.out]; exact HT0.out, by rw [HA.out]; exact E.out, HBK.out.more (Nat.le_succ _), HM2.out⟩, HB0.out.mono HLL.out⟩
theorem step_c (h : TwC w H V VR S R M) (e : Eqv S R) (hb : Bd K S) (hr : BdR K R) (hK : K < 200) (hM : Cfg2 M) (hx : NxOk x) : Calls Try.prog 12 (argS H x) w (StepEnd w H V VR S K M x) := by
  by_cases p1 : x.op = 1
  · exact step_1 h e hb hr hK hM hx p1
  by_cases p2 : x.op = 2
  · exact step_2 h e hb hr hK hM hx p2
  by_cases p3 : x.op = 3
  · exact step_3 h e hb hr hK hM hx p3
  by_cases p4 : x.op = 4
  · exact step_4 h e hb hr hK hM hx p4
  by_cases p5 : x.op = 5
  · exact step_5 h e hb hr hK hM hx p5
  by_cases p6 : x.op = 6
  · exact step_6 h e hb hr hK hM hx p6
  by_cases p7 : x.op = 7
  · exact step_7 h e hb hr hK hM hx p7
  by_cases p8 : x.op = 8
  · exact step_8 h e hb hr hK hM hx p8
  by_cases p9 : x.op = 9
  · exact step_9 h e hb hr hK hM hx p9
  by_cases p10 : x.op = 10
  · exact step_10 h e hb hr hK hM hx p10
  exact step_11 h e hb hr hK hM hx ⟨p1, p2, p3, p4, p5, p6, p7, p8, p9, p10⟩
end
end Go.Proofs.Ytjcbhomfggjmhaa.Mm
