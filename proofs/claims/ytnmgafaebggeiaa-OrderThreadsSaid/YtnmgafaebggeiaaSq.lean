import Derived.Test.YtnmgafaebggeiaaSp
namespace Go.Proofs.Ytnmgafaebggeiaa.St
open Go.ChangeShapes Go.WideShapes Go.ChangeAt Go.RowKit Go.Maps
set_option linter.unusedVariables false
/-! ### Stamp -/
def StampP (n : Nat) (X : Nat → Ev) (w : World) (r : Ending) (w' : World) : Prop := Below w.heap.size w w' ∧
  (((∃ i, i < n ∧ thB (X i).th = false) ∧ r = .returned (.tuple #[.slice none 0 0, .int .i64 1])) ∨
   ((∀ i, i < n → thB (X i).th = true) ∧ ¬ (FX n n X).good ∧ r = .returned (.tuple #[.slice none 0 0, .int .i64 27])) ∨
   ((∀ i, i < n → thB (X i).th = true) ∧ (FX n n X).good ∧ ∃ l k, r = .returned (.tuple #[.slice (some ⟨k, 0, none⟩) n n, .int .i64 0]) ∧ l.Perm ((FX n n X).syl 4) ∧ l.Pairwise (fun i j => (FX n n X).tm i < (FX n n X).tm j) ∧ w.heap.size ≤ k ∧ w'.heap[k]? = some (.cells (rowC (FX n n X) (St.fin (FX n n X) l)) 24 (0, 0))))
set_option maxRecDepth 100000 in
set_option maxHeartbeats 8000000 in
theorem Stamp_c {f : Value} (hf : VolF f) (a : Option Addr) (n c : Nat) (X : Nat → Ev) (w : World) (h : EvS w a n X) (hn : n ≤ 150) (hok : ∀ i, i < n → (X i).ok) :
    Calls Try.prog 16 #[.slice a n c, f] w (StampP n X w) := by
  have HEV0 := Lib.hid h
  have HN := Lib.hid hn
  have HOK := Lib.hid hok
  have HVF := Lib.hid hf
  clear h hok hf
  by_cases hbad : ∃ i, i < n ∧ thB (X i).th = false
  · have HBAD := Lib.hid hbad
    clear hbad
    go_enter Try.func16, Try.ntmps16
    go_wp2_with (first | (go_at_call 22; refine (has_c a n c X _ HEV0.out HN.out).mono ?_; rintro e w1 ⟨q, rfl, hq, hb⟩; obtain rfl := hq.2 HBAD.out; clear hq))
    go_ret2
    exact ⟨hb, .inl ⟨HBAD.out, rfl⟩⟩
  · have HTH : Hid (∀ i, i < n → thB (X i).th = true) := Lib.hid (fun i hi => by
      cases e : thB (X i).th with
      | true => rfl
      | false => exact absurd ⟨i, hi, e⟩ hbad)
    have HNB := Lib.hid hbad
    clear hbad
    have HF := Lib.hid (fx_ok n X hn)
    go_enter Try.func16, Try.ntmps16
    go_upto_region 3 with (first | (go_at_call 22; refine (has_c a n c X _ HEV0.out HN.out).mono ?_; rintro e w1 ⟨q, rfl, hq, hb⟩; obtain rfl : q = false := (by cases q with | false => rfl | true => exact absurd (hq.1 rfl) HNB.out); have HB := Lib.hid hb; clear hq hb))
    have HEV1 := Lib.hid (HEV0.out.past HB.out)
    go_cut [6] from 16 to 28 (fun s wx => ∃ P : Pc, s = .pointer (some ⟨P.s, 0, none⟩) ∧ (P.ea = a ∧ P.ec = c ∧ w1.heap.size ≤ P.cb ∧ w1.heap.size ≤ P.s ∧ w1.heap.size ≤ P.xb ∧ w1.heap.size ≤ P.wb ∧ w1.heap.size ≤ P.sb ∧ P.eb ≠ P.sb) ∧ SmC wx P (FX 0 n X) S00 ∧ Below w.heap.size w wx)
    case first =>
      replace HB : Hid (Below w.heap.size w w1.drew) := Lib.hid HB.out.drew
      have HEV : Hid (EvS w1.drew a n X) := Lib.hid (HEV1.out.past (Below.refl _ _).drew)
      have HZ : Hid (w1.drew.heap.size = w1.heap.size) := Lib.hid rfl
      go_wp2
      refine region_e 13 (fun _ => True) (by kernel_rfl) trivial (fun hHeld => ?_)
      generalize w1.drew = W1 at HB HEV HZ ⊢
      refine AnyE.take (i := 0) (oi := { dst := some 16, op := Go.Op.move (Go.Operand.tmp 0), type := 36, pos := "stamp.go:32", after := #[], guard := none }) (v := ?_) rfl (by kernel_rfl) (by kernel_rfl) (by kernel_rfl) (by kernel_rfl) (fun _ _ _ h => h) (Or.inl ⟨by rfl, ?_⟩) (by assumption) ?_
      rotate_left
      · (intro w0 hSw; (try dsimp only at hSw); go_split_ands; go_simp; with_reducible rfl)
      try simp only [Act.put, List.setIfInBounds_toArray, List.set_cons_zero, List.set_cons_succ]
      refine AnyE.take (i := 1) (oi := { dst := some 17, op := Go.Op.move (Go.Operand.tmp 0), type := 36, pos := "stamp.go:32", after := #[], guard := none }) (v := ?_) rfl (by kernel_rfl) (by kernel_rfl) (by kernel_rfl) (by kernel_rfl) (fun _ _ _ h => h) (Or.inl ⟨by rfl, ?_⟩) (by assumption) ?_
      rotate_left
      · (intro w0 hSw; (try dsimp only at hSw); go_split_ands; go_simp; with_reducible rfl)
      try simp only [Act.put, List.setIfInBounds_toArray, List.set_cons_zero, List.set_cons_succ]
      refine AnyE.take (i := 2) (oi := { dst := some 18, op := Go.Op.call { callee := Go.Callee.builtin Go.Builtin.len, args := #[Go.Operand.tmp 17], argTypes := #[36] }, type := 3, pos := "stamp.go:32", after := #[{ on := 1, ground := Go.Ground.data }], guard := none }) (v := ?_) rfl (by kernel_rfl) (by kernel_rfl) (by kernel_rfl) (by kernel_rfl) (fun _ _ _ h => h) (Or.inl ⟨by rfl, ?_⟩) (by assumption) ?_
      rotate_left
      · (intro w0 hSw; (try dsimp only at hSw); go_split_ands; go_simp; with_reducible rfl)
      try simp only [Act.put, List.setIfInBounds_toArray, List.set_cons_zero, List.set_cons_succ]
      refine AnyE.take (i := 4) (oi := { dst := some 20, op := Go.Op.move (Go.Operand.tmp 0), type := 36, pos := "stamp.go:32", after := #[], guard := none }) (v := ?_) rfl (by kernel_rfl) (by kernel_rfl) (by kernel_rfl) (by kernel_rfl) (fun _ _ _ h => h) (Or.inl ⟨by rfl, ?_⟩) (by assumption) ?_
      rotate_left
      · (intro w0 hSw; (try dsimp only at hSw); go_split_ands; go_simp; with_reducible rfl)
      try simp only [Act.put, List.setIfInBounds_toArray, List.set_cons_zero, List.set_cons_succ]
      refine AnyE.take (i := 8) (oi := { dst := some 24, op := Go.Op.move (Go.Operand.tmp 0), type := 36, pos := "stamp.go:32", after := #[], guard := none }) (v := ?_) rfl (by kernel_rfl) (by kernel_rfl) (by kernel_rfl) (by kernel_rfl) (fun _ _ _ h => h) (Or.inl ⟨by rfl, ?_⟩) (by assumption) ?_
      rotate_left
      · (intro w0 hSw; (try dsimp only at hSw); go_split_ands; go_simp; with_reducible rfl)
      try simp only [Act.put, List.setIfInBounds_toArray, List.set_cons_zero, List.set_cons_succ]
      refine AnyE.take (i := 9) (oi := { dst := some 25, op := Go.Op.call { callee := Go.Callee.builtin Go.Builtin.len, args := #[Go.Operand.tmp 24], argTypes := #[36] }, type := 3, pos := "stamp.go:32", after := #[{ on := 8, ground := Go.Ground.data }], guard := none }) (v := ?_) rfl (by kernel_rfl) (by kernel_rfl) (by kernel_rfl) (by kernel_rfl) (fun _ _ _ h => h) (Or.inl ⟨by rfl, ?_⟩) (by assumption) ?_
      rotate_left
      · (intro w0 hSw; (try dsimp only at hSw); go_split_ands; go_simp; with_reducible rfl)
      try simp only [Act.put, List.setIfInBounds_toArray, List.set_cons_zero, List.set_cons_succ]
      refine mk_inv HN.out (HEV.out) HTH.out (fun v19 v21 v22 v23 v26 W y k m1 m2 R V hM => ?_) 8 false false false false false _ _ _ _ _ W1 0 0 0 0 0 (fun _ => undef) (by simp) ⟨Below.refl _ _, (fun e => nomatch e), (fun e => nomatch e), (fun e => nomatch e), (fun e => nomatch e), (fun e => nomatch e), (fun e => nomatch e)⟩
      obtain ⟨P, p1, p2, p3, p4, p5, p6, p7, p8, p9, p10, p11⟩ := new_stamper (c := c) hM HEV.out HN.out HTH.out HOK.out
      obtain ⟨rfl, _⟩ := hM.hy rfl
      obtain ⟨rfl, _⟩ := hM.hr rfl
      obtain ⟨rfl, _⟩ := hM.h1 rfl
      obtain ⟨rfl, _⟩ := hM.h2 rfl
      obtain ⟨rfl, _⟩ := hM.hk rfl
      have HBM := Lib.hid hM.bel
      have HPP := Lib.hid (And.intro p2 (And.intro p3 (And.intro p5 (And.intro p6 (And.intro p7 (And.intro p8 (And.intro p9 p10)))))))
      have HP1 := Lib.hid p1
      have HP11 := Lib.hid p11
      clear hM p1 p2 p3 p4 p5 p6 p7 p8 p9 p10 p11 hHeld
      refine AnyE.ready (rs := [11]) (by kernel_rfl) (by simp) ?_
      refine AllE.cons (o := { dst := some 27, op := Go.Op.build 59 #[(0, Go.Operand.tmp 16), (1, Go.Operand.tmp 19), (2, Go.Operand.tmp 21), (6, Go.Operand.tmp 22), (7, Go.Operand.tmp 23), (8, Go.Operand.tmp 26)], type := 59, pos := "stamp.go:32", after := #[{ on := 0, ground := Go.Ground.data }, { on := 3, ground := Go.Ground.data }, { on := 5, ground := Go.Ground.data }, { on := 6, ground := Go.Ground.data }, { on := 7, ground := Go.Ground.data }, { on := 10, ground := Go.Ground.data }], guard := none }) rfl (fun K hK => ?_) AllE.nil
      go_simp
      refine hK.out _ _ trivial (fun hHeld => ?_)
      clear hK K
      try simp only [Act.put, List.setIfInBounds_toArray, List.set_cons_zero, List.set_cons_succ]
      refine AnyE.ready (rs := [12]) (by kernel_rfl) (by simp) ?_
      refine AllE.cons (o := { dst := some 28, op := Go.Op.box 59 (Go.Operand.tmp 27), type := 50, pos := "stamp.go:32", after := #[{ on := 11, ground := Go.Ground.data }], guard := none }) rfl (fun K hK => ?_) AllE.nil
      go_simp
      refine hK.out _ _ trivial (fun hHeld => ?_)
      clear hK K
      try simp only [Act.put, List.setIfInBounds_toArray, List.set_cons_zero, List.set_cons_succ]
      refine AnyE.ready (rs := [13]) (by kernel_rfl) (by simp) ?_
      refine AllE.last (o := { dst := some 6, op := Go.Op.assign (Go.Operand.tmp 28), type := 50, pos := "stamp.go:32", after := #[{ on := 12, ground := Go.Ground.data }, { on := 5, ground := Go.Ground.chain }, { on := 0, ground := Go.Ground.phase }, { on := 1, ground := Go.Ground.phase }, { on := 2, ground := Go.Ground.phase }, { on := 3, ground := Go.Ground.phase }, { on := 4, ground := Go.Ground.phase }, { on := 5, ground := Go.Ground.phase }, { on := 6, ground := Go.Ground.phase }, { on := 7, ground := Go.Ground.phase }, { on := 8, ground := Go.Ground.phase }, { on := 9, ground := Go.Ground.phase }, { on := 10, ground := Go.Ground.phase }, { on := 11, ground := Go.Ground.phase }, { on := 12, ground := Go.Ground.phase }], guard := none }) rfl (by kernel_rfl) (fun K hK => ?_)
      go_simp
      refine hK.out _ _ ?_
      clear hK K
      try simp only [Act.put, List.setIfInBounds_toArray, List.set_cons_zero, List.set_cons_succ]
      go_wp2_with fail
      go_meet
      case rel => exact ⟨P, by rw [HP1.out], (by have := HPP.out; rw [HZ.out] at this; exact this), HP11.out, (HB.out.trans (HBM.out.mono HB.out.size)).alloc (HB.out.trans (HBM.out.mono HB.out.size)).size _⟩
    case rest =>
    obtain ⟨P, hs, hpp, hsm, hbx⟩ := hcut
    subst hs
    have HPP : Hid (P.ea = a ∧ P.ec = c ∧ w.heap.size ≤ P.cb ∧ w.heap.size ≤ P.s ∧ w.heap.size ≤ P.xb ∧ w.heap.size ≤ P.wb ∧ w.heap.size ≤ P.sb ∧ P.eb ≠ P.sb) := Lib.hid (by
      have := HB.out.size
      obtain ⟨h1, h2, h3, h4, h5, h6, h7, h8⟩ := hpp
      exact ⟨h1, h2, by omega, by omega, by omega, by omega, by omega, h8⟩)
    generalize wc = W2 at hsm hbx ⊢
    have HSM := Lib.hid hsm
    have HBX := Lib.hid hbx
    clear hpp hsm hbx HB HEV1 HNB
    go_wp2
    go_loopw [31] (fun s31 wr => ∃ j : Nat, s31 = .int .i64 j ∧ j ≤ n ∧ Hid (SmC wr P (FX j n X) S00) ∧ Hid (Below w.heap.size w wr)) (fun s31 _ => n - iof s31)
    case atStart => exact ⟨0, rfl, by omega, HSM, HBX⟩
    case round =>
      obtain ⟨j, rfl, hj, HSJ0, HBJ0⟩ := hrel
      clear HSM HBX
      by_cases hlt : j < n
      · obtain ⟨b, o, rfl, hbl, hc⟩ : ∃ b o, a = some ⟨b, o, none⟩ ∧ b < wr.heap.size ∧ ∀ i, i < n → EvAt wr b (o + i * 9) (X i) := by
          rcases HEV0.out.past HBJ0.out with h | h
          · omega
          · exact h
        have hc := hc j hlt
        have c0 := hc.c0
        have c1 := hc.c1
        have c2 := hc.c2
        have c3 := hc.c3
        have c4 := hc.c4
        have c5 := hc.c5
        have c6 := hc.c6
        have c7 := hc.c7
        have c8 := hc.c8
        have g1 : (j : Int) < n := by omega
        have g0 : (0 : Int) ≤ j := by omega
        have gw : IntKind.i64.wrap ((j : Int) + 1) = ((j + 1 : Nat) : Int) := by rw [IntKind.wrap_i64]; omega
        have HLT := Lib.hid hlt
        clear hc hbl
        have HBN : Hid (Below wr.heap.size wr (wr.alloc (.cells #[.int .i64 (X j).th, .int .i64 (X j).kd, .int .i64 (X j).ob, .int .i64 (X j).sl, .int .i64 (X j).va, .bool (X j).rf, .int .i64 (X j).f1, .int .i64 (X j).f2, .int .i64 (X j).tm] 44))) := Lib.hid ((Below.refl _ _).alloc (Nat.le_refl _) _)
        have HXJ0 : Hid (rowAt (wr.alloc (.cells #[.int .i64 (X j).th, .int .i64 (X j).kd, .int .i64 (X j).ob, .int .i64 (X j).sl, .int .i64 (X j).va, .bool (X j).rf, .int .i64 (X j).f1, .int .i64 (X j).f2, .int .i64 (X j).tm] 44)) wr.heap.size = some #[.int .i64 (X j).th, .int .i64 (X j).kd, .int .i64 (X j).ob, .int .i64 (X j).sl, .int .i64 (X j).va, .bool (X j).rf, .int .i64 (X j).f1, .int .i64 (X j).f2, .int .i64 (X j).tm]) := Lib.hid (rowAt_new _ _ _)
        have HSJ1 := Lib.hid (HSJ0.out.past HBN.out)
        have HBJ1 := Lib.hid (HBJ0.out.trans (HBN.out.mono HBJ0.out.size))
        go_wp2
        clear c0 c1 c2 c3 c4 c5 c6 c7 c8
        generalize (wr.alloc (.cells #[.int .i64 (X j).th, .int .i64 (X j).kd, .int .i64 (X j).ob, .int .i64 (X j).sl, .int .i64 (X j).va, .bool (X j).rf, .int .i64 (X j).f1, .int .i64 (X j).f2, .int .i64 (X j).tm] 44)) = U at HXJ0 HSJ1 HBJ1 ⊢
        generalize wr.heap.size = x at HXJ0 ⊢
        have HHO : Hid (∀ W, SmC W P (FX j n X) S00 → rowAt W x = some #[.int .i64 (X j).th, .int .i64 (X j).kd, .int .i64 (X j).ob, .int .i64 (X j).sl, .int .i64 (X j).va, .bool (X j).rf, .int .i64 (X j).f1, .int .i64 (X j).f2, .int .i64 (X j).tm] → W.cell? ⟨x, 0, none⟩ = some (.int .i64 (X j).th) ∧ W.cell? ⟨x, 1, none⟩ = some (.int .i64 (X j).kd) ∧ W.cell? ⟨x, 2, none⟩ = some (.int .i64 (X j).ob) ∧ W.cell? ⟨x, 3, none⟩ = some (.int .i64 (X j).sl) ∧ W.cell? ⟨x, 4, none⟩ = some (.int .i64 (X j).va) ∧ W.cell? ⟨x, 5, none⟩ = some (.bool (X j).rf) ∧ W.cell? ⟨x, 6, none⟩ = some (.int .i64 (X j).f1) ∧ W.cell? ⟨x, 7, none⟩ = some (.int .i64 (X j).f2) ∧ W.cell? ⟨x, 8, none⟩ = some (.int .i64 (X j).tm) ∧ W.cell? ⟨P.s, 1, none⟩ = some (.slice (some ⟨P.sb, 0, none⟩) n n)) := Lib.hid (fun W h hx => ⟨rowAt_cell hx 0, rowAt_cell hx 1, rowAt_cell hx 2, rowAt_cell hx 3, rowAt_cell hx 4, rowAt_cell hx 5, rowAt_cell hx 6, rowAt_cell hx 7, rowAt_cell hx 8, h.ats.1⟩)
        have HSJ : Hid (SmC U.drew P (FX j n X) S00) := Lib.hid (HSJ1.out.past (Below.refl _ _).drew)
        have HXJ : Hid (rowAt U.drew x = some #[.int .i64 (X j).th, .int .i64 (X j).kd, .int .i64 (X j).ob, .int .i64 (X j).sl, .int .i64 (X j).va, .bool (X j).rf, .int .i64 (X j).f1, .int .i64 (X j).f2, .int .i64 (X j).tm]) := Lib.hid HXJ0.out
        have HBJ : Hid (Below w.heap.size w U.drew) := Lib.hid HBJ1.out.drew
        clear HSJ1 HXJ0 HBJ1 HBN HSJ0 HBJ0
        refine region_e 9 (fun w' => w'.cell? ⟨x, 0, none⟩ = some (.int .i64 (X j).th) ∧ w'.cell? ⟨x, 1, none⟩ = some (.int .i64 (X j).kd) ∧ w'.cell? ⟨x, 2, none⟩ = some (.int .i64 (X j).ob) ∧ w'.cell? ⟨x, 3, none⟩ = some (.int .i64 (X j).sl) ∧ w'.cell? ⟨x, 4, none⟩ = some (.int .i64 (X j).va) ∧ w'.cell? ⟨x, 5, none⟩ = some (.bool (X j).rf) ∧ w'.cell? ⟨x, 6, none⟩ = some (.int .i64 (X j).f1) ∧ w'.cell? ⟨x, 7, none⟩ = some (.int .i64 (X j).f2) ∧ w'.cell? ⟨x, 8, none⟩ = some (.int .i64 (X j).tm) ∧ w'.cell? ⟨P.s, 1, none⟩ = some (.slice (some ⟨P.sb, 0, none⟩) n n)) (by kernel_rfl) (HHO.out _ HSJ.out HXJ.out) (fun hHeld => ?_)
        generalize U.drew = U0 at hHeld HSJ HXJ HBJ ⊢
        refine AnyE.take2 (i := 0) [] (oi := { dst := some 36, op := Go.Op.move (Go.Operand.tmp 6), type := 50, pos := "stamp.go:41", after := #[], guard := none }) (v := ?_) rfl (by kernel_rfl) (by kernel_rfl) (by kernel_rfl) (by kernel_rfl) (fun _ _ _ h => h) (Or.inl ⟨by rfl, ?_⟩) (by assumption) ?_
        rotate_left
        · (intro w0 hSw; (try dsimp only at hSw); go_split_ands; go_simp; with_reducible rfl)
        try simp only [Act.put, List.setIfInBounds_toArray, List.set_cons_zero, List.set_cons_succ]
        refine AnyE.take2 (i := 1) [] (oi := { dst := some 37, op := Go.Op.nilCheck (Go.Operand.tmp 36), type := 0, pos := "stamp.go:41", after := #[{ on := 0, ground := Go.Ground.data }], guard := none }) (v := ?_) rfl (by kernel_rfl) (by kernel_rfl) (by kernel_rfl) (by kernel_rfl) (fun _ _ _ h => h) (Or.inl ⟨by rfl, ?_⟩) (by assumption) ?_
        rotate_left
        · (intro w0 hSw; (try dsimp only at hSw); go_split_ands; go_simp; with_reducible rfl)
        try simp only [Act.put, List.setIfInBounds_toArray, List.set_cons_zero, List.set_cons_succ]
        refine AnyE.take2 (i := 2) [] (oi := { dst := some 38, op := Go.Op.fieldAddr 59 (Go.Operand.tmp 37) 1, type := 0, pos := "stamp.go:41", after := #[{ on := 1, ground := Go.Ground.data }], guard := none }) (v := ?_) rfl (by kernel_rfl) (by kernel_rfl) (by kernel_rfl) (by kernel_rfl) (fun _ _ _ h => h) (Or.inl ⟨by rfl, ?_⟩) (by assumption) ?_
        rotate_left
        · (intro w0 hSw; (try dsimp only at hSw); go_split_ands; go_simp; with_reducible rfl)
        try simp only [Act.put, List.setIfInBounds_toArray, List.set_cons_zero, List.set_cons_succ]
        refine AnyE.take2 (i := 3) [] (oi := { dst := some 39, op := Go.Op.load 51 (Go.Operand.tmp 38), type := 51, pos := "stamp.go:41", after := #[{ on := 2, ground := Go.Ground.data }], guard := none }) (v := ?_) rfl (by kernel_rfl) (by kernel_rfl) (by kernel_rfl) (by kernel_rfl) (fun _ _ _ h => h) (Or.inl ⟨by rfl, ?_⟩) (by assumption) ?_
        rotate_left
        · (intro w0 hSw; (try dsimp only at hSw); go_split_ands; go_simp; with_reducible rfl)
        try simp only [Act.put, List.setIfInBounds_toArray, List.set_cons_zero, List.set_cons_succ]
        refine AnyE.take2 (i := 4) [] (oi := { dst := some 40, op := Go.Op.move (Go.Operand.tmp 7), type := 3, pos := "stamp.go:41", after := #[], guard := none }) (v := ?_) rfl (by kernel_rfl) (by kernel_rfl) (by kernel_rfl) (by kernel_rfl) (fun _ _ _ h => h) (Or.inl ⟨by rfl, ?_⟩) (by assumption) ?_
        rotate_left
        · (intro w0 hSw; (try dsimp only at hSw); go_split_ands; go_simp; with_reducible rfl)
        try simp only [Act.put, List.setIfInBounds_toArray, List.set_cons_zero, List.set_cons_succ]
        refine AnyE.take2 (i := 5) [] (oi := { dst := some 41, op := Go.Op.load 44 (Go.Operand.tmp 8), type := 44, pos := "stamp.go:41", after := #[], guard := none }) (v := ?_) rfl (by kernel_rfl) (by kernel_rfl) (by kernel_rfl) (by kernel_rfl) (fun _ _ _ h => h) (Or.inl ⟨by rfl, ?_⟩) (by assumption) ?_
        rotate_left
        · (intro w0 hSw; (try dsimp only at hSw); go_split_ands; go_simp; with_reducible rfl)
        try simp only [Act.put, List.setIfInBounds_toArray, List.set_cons_zero, List.set_cons_succ]
        refine AnyE.take2 (i := 6) [] (oi := { dst := some 42, op := Go.Op.move (Go.Operand.tmp 1), type := 45, pos := "stamp.go:41", after := #[], guard := none }) (v := ?_) rfl (by kernel_rfl) (by kernel_rfl) (by kernel_rfl) (by kernel_rfl) (fun _ _ _ h => h) (Or.inl ⟨by rfl, ?_⟩) (by assumption) ?_
        rotate_left
        · (intro w0 hSw; (try dsimp only at hSw); go_split_ands; go_simp; with_reducible rfl)
        try simp only [Act.put, List.setIfInBounds_toArray, List.set_cons_zero, List.set_cons_succ]
        refine AnyE.ready (rs := [7]) (by kernel_rfl) (by simp) ?_
        refine AllE.cons (o := { dst := some 43, op := Go.Op.call { callee := Go.Callee.value (Go.Operand.func 26), args := #[Go.Operand.tmp 41, Go.Operand.tmp 42], argTypes := #[44, 45] }, type := 4, pos := "stamp.go:41", after := #[{ on := 5, ground := Go.Ground.data }, { on := 6, ground := Go.Ground.data }], guard := none }) rfl (fun K hK => ?_) AllE.nil
        go_simp
        go_at_call 26
        refine (sync_c HVF.out _ _ _ _ _ _ _ _ _ _).mono ?_
        rintro e u1 ⟨rfl, hb1⟩
        replace HSJ := Lib.hid (HSJ.out.past hb1)
        replace HXJ := Lib.hid (rowAt_below HXJ.out hb1 rfl)
        replace HBJ := Lib.hid (HBJ.out.trans (hb1.mono HBJ.out.size))
        clear hb1
        refine hK.out _ _ (HHO.out _ HSJ.out HXJ.out) (fun hHeld => ?_)
        clear hK K
        try simp only [Act.put, List.setIfInBounds_toArray, List.set_cons_zero, List.set_cons_succ]
        refine AnyE.take (i := 8) (oi := { dst := some 44, op := Go.Op.indexAddr 51 (Go.Operand.tmp 39) (Go.Operand.tmp 40), type := 0, pos := "stamp.go:41", after := #[{ on := 3, ground := Go.Ground.data }, { on := 4, ground := Go.Ground.data }, { on := 0, ground := Go.Ground.phase }, { on := 1, ground := Go.Ground.phase }, { on := 2, ground := Go.Ground.phase }, { on := 3, ground := Go.Ground.phase }, { on := 4, ground := Go.Ground.phase }, { on := 5, ground := Go.Ground.phase }, { on := 6, ground := Go.Ground.phase }, { on := 7, ground := Go.Ground.phase }], guard := none }) (v := ?_) rfl (by kernel_rfl) (by kernel_rfl) (by kernel_rfl) (by kernel_rfl) (fun _ _ _ h => h) (Or.inl ⟨by rfl, ?_⟩) (by assumption) ?_
        rotate_left
        · (intro w0 hSw; (try dsimp only at hSw); go_split_ands; go_simp; with_reducible rfl)
        try simp only [Act.put, List.setIfInBounds_toArray, List.set_cons_zero, List.set_cons_succ]
        have s0 : u1.cell? ⟨P.sb, j, none⟩ = some (.bool ((FX j n X).sy j)) := HSJ.out.sync (show j < (FX j n X).N from HLT.out)
        have s1 : u1.frozen? ⟨P.sb, j, none⟩ = false := (own_cells HSJ.out.sy).2 j
        generalize (FX j n X).sy j = bb at s0
        refine AnyE.ready (rs := [9]) (by kernel_rfl) (by simp) ?_
        refine AllE.last (o := { dst := none, op := Go.Op.store 4 (Go.Operand.tmp 44) (Go.Operand.tmp 43), type := 0, pos := "stamp.go:41", after := #[{ on := 8, ground := Go.Ground.data }, { on := 7, ground := Go.Ground.data }, { on := 7, ground := Go.Ground.chain }, { on := 0, ground := Go.Ground.phase }, { on := 1, ground := Go.Ground.phase }, { on := 2, ground := Go.Ground.phase }, { on := 3, ground := Go.Ground.phase }, { on := 4, ground := Go.Ground.phase }, { on := 5, ground := Go.Ground.phase }, { on := 6, ground := Go.Ground.phase }, { on := 7, ground := Go.Ground.phase }], guard := none }) rfl (by kernel_rfl) (fun K hK => ?_)
        clear hHeld
        go_simp
        refine hK.out _ _ ?_
        clear hK K
        try simp only [Act.put, List.setIfInBounds_toArray, List.set_cons_zero, List.set_cons_succ]
        clear s0 s1
        go_wp2
        exact ⟨⟨j + 1, by simp, by omega, Lib.hid (HSJ.out.setSync HLT.out HPP.out.2.2.2.2.2.2.2), Lib.hid (HBJ.out.setCell HPP.out.2.2.2.2.2.2.1 _)⟩, by simp [iof]; omega⟩
      · have d1 : decide (j < n) = false := decide_eq_false hlt
        have HSN : Hid (SmC wr P (FX n n X) S00) := Lib.hid (by have := HSJ0.out; rwa [show j = n by omega] at this)
        have HBN := HBJ0
        clear hlt HSJ0 HBJ0
        generalize wr = w2 at HSN HBN ⊢
        have HSYN := Lib.hid (syncs_c sort_law HSN.out HF.out)
        by_cases hgood : (FX n n X).good
        · have HGD := Lib.hid hgood
          clear hgood
          go_wp2_with (first | (go_at_call 27; refine HSYN.out.mono ?_; rintro e w3 ⟨hb3, hor⟩; obtain ⟨v, l, rfl, hp, hss, ho⟩ : ∃ v l, e = .returned (.tuple #[v, .bool true]) ∧ l.Perm ((FX n n X).syl 4) ∧ l.Pairwise (fun i j => (FX n n X).tm i < (FX n n X).tm j) ∧ w3.ownsRow w2.heap.size 3 1 v l.length (intL l) := hor.elim (fun h => h.2) (fun h => absurd HGD.out h.1); obtain ⟨a3, c3, rfl, hf3⟩ := own_form ho; have HP := Lib.hid hp; have HSS := Lib.hid hss; have HO := Lib.hid ho; have HB3 := Lib.hid hb3; clear hp hss ho hb3 hor HSYN))
          have HS3 := Lib.hid (HSN.out.past HB3.out)
          have HFL : Hid (∀ q, P.fp q → w.heap.size ≤ q ∧ q < w2.heap.size) := Lib.hid (fun q hq => ⟨by
            obtain ⟨_, _, h3, h4, h5, h6, _⟩ := HPP.out
            rcases hq with rfl | rfl | rfl | rfl <;> assumption, HSN.out.fl hq⟩)
          have HTHS : Hid (∀ i ∈ l, i < n ∧ ∃ k : Nat, k < 4 ∧ (X i).th = (k : Nat)) := Lib.hid (fun i hi => by
            obtain ⟨k, hk, hik⟩ := List.mem_flatMap.1 (List.mem_filter.1 (HP.out.subset hi)).1
            have := rowsOf_mem hik
            exact ⟨this.1, k, List.mem_range.1 hk, this.2⟩)
          have HLL : Hid (l.length ≤ 600) := Lib.hid (by rw [HP.out.length_eq]; exact (FX n n X).syl_len HF.out 4 (Nat.le_refl _))
          have HBQ : Hid (∀ q, Bnd (l.take q).length ((l.take q).foldl (St.next (FX n n X)) S00)) := Lib.hid (fun q => by
            have := fold_bnd HF.out (l.take q) S00 0 s00_bnd (fun i hi => by
              obtain ⟨_, k, hk, e⟩ := HTHS.out i (List.mem_of_mem_take hi)
              show (X i).th.toNat < 4
              rw [e]
              omega)
            rwa [Nat.zero_add] at this)
          go_loopw [55] (fun s55 wr => ∃ q : Nat, s55 = .int .i64 q ∧ q ≤ l.length ∧ Hid (SmC wr P (FX n n X) ((l.take q).foldl (St.next (FX n n X)) S00)) ∧ Hid (Kp P.fp w3 wr)) (fun s55 _ => l.length - iof s55)
          case atStart => exact ⟨0, rfl, by omega, HS3, Lib.hid (Kp.refl _ _)⟩
          case round =>
            obtain ⟨q, rfl, hq, HS, HK⟩ := hrel
            by_cases hlt : q < l.length
            · obtain ⟨g3, rfl⟩ : ∃ g, a3 = some ⟨g, 0, none⟩ := by
                rcases hf3 with hf3 | hf3
                · omega
                · exact hf3
              obtain ⟨i, hi⟩ : ∃ i, l[q]? = some i := ⟨_, List.getElem?_eq_getElem hlt⟩
              obtain ⟨hin, k, hk4, hth⟩ := HTHS.out i (List.mem_of_getElem? hi)
              have HIN := Lib.hid hin
              have HK4 := Lib.hid hk4
              have HTHK : Hid (((FX n n X).X i).th = (k : Nat)) := Lib.hid hth
              have HSTP := Lib.hid (fold_step (FX n n X) hi (k := k) hth)
              have HO2 := Lib.hid (own_kept (w' := wr) HO.out fun b hb => HK.out.block b (HO.out.lt b hb).2 (fun hf => by have := (HFL.out b hf).2; have := (HO.out.lt b hb).1; omega))
              have r1 : wr.cell? ⟨g3, q, none⟩ = some (.int .i64 i) := (own_cells HO2.out).1 q _ (by unfold intL; rw [List.getElem?_map, hi]; rfl)
              obtain ⟨hea, hev⟩ := HS.out.ev i hin
              have c0 : wr.cell? ⟨P.eb, P.eo + i * 9, none⟩ = some (.int .i64 k) := by
                have := hev.c0
                rw [show ((FX n n X).X i).th = (k : Nat) from hth] at this
                exact this
              obtain rfl : a = some ⟨P.eb, P.eo, none⟩ := HPP.out.1.symm.trans hea
              have g1 : (q : Int) < l.length := by omega
              have g2 : (0 : Int) ≤ q := by omega
              have g3' : (i : Int) < n := by omega
              have g4 : (0 : Int) ≤ i := by omega
              have hll := HLL.out
              have gw : IntKind.i64.wrap ((q : Int) + 1) = ((q + 1 : Nat) : Int) := by rw [IntKind.wrap_i64]; omega
              have HLT := Lib.hid hlt
              have HBND : Hid (Bnd q ((l.take q).foldl (St.next (FX n n X)) S00)) := Lib.hid (by have := HBQ.out q; rwa [List.length_take, Nat.min_eq_left hq] at this)
              have HQ6 : Hid (q ≤ 600) := Lib.hid (by omega)
              have HBN2 : Hid (Bnd q (((l.take q).foldl (St.next (FX n n X)) S00).pl (FX n n X) k)) := Lib.hid (plain_bnd (HF.out.l k hk4) _ HBND.out)
              clear hi hin hk4 hth hea hev hlt hll
              go_wp2_with (first | (go_at_call 28; refine (plain_c HS.out HF.out HK4.out (Nat.lt_of_le_of_lt HBND.out.x (Nat.lt_of_le_of_lt HQ6.out (by omega))) (Nat.lt_of_le_of_lt HBND.out.w (Nat.lt_of_le_of_lt HQ6.out (by omega)))).mono ?_; rintro e w4 ⟨rfl, hs4, hk4⟩; have HS4 := Lib.hid hs4; have HK5 := Lib.hid (HK.out.trans hk4 fun q hq => .inl hq); clear hs4 hk4 c0 r1) | (go_at_call 29; refine (stamp_c HS4.out HF.out HIN.out HK4.out HTHK.out (Nat.lt_of_le_of_lt (HBN2.out.g k) (by have := HQ6.out; omega)) (Nat.lt_of_le_of_lt HBN2.out.x (Nat.lt_of_le_of_lt HQ6.out (by omega))) (Nat.lt_of_le_of_lt HBN2.out.w (Nat.lt_of_le_of_lt HQ6.out (by omega)))).mono ?_; rintro e w5 ⟨rfl, hs5, hk5⟩; have HS5 := Lib.hid hs5; have HK6 := Lib.hid (HK5.out.trans hk5 fun q hq => .inl hq); clear hs5 hk5))
              exact ⟨⟨q + 1, by simp, HLT.out, Lib.hid (by rw [HSTP.out]; exact HS5.out), HK6⟩, by have := HLT.out; simp [iof]; omega⟩
            · have d1 : decide (q < l.length) = false := decide_eq_false hlt
              have HSF : Hid (SmC wr P (FX n n X) (l.foldl (St.next (FX n n X)) S00)) := Lib.hid (by have := HS.out; rwa [List.take_of_length_le (by omega)] at this)
              have HBF : Hid (Bnd l.length (l.foldl (St.next (FX n n X)) S00)) := Lib.hid (by have := HBQ.out l.length; rwa [List.take_length] at this)
              have r2 := (HSF.out.rowsAt (k := 0) (by omega)).1
              clear hlt HS HBQ
              go_wp2
              clear r2 d1
              generalize wr = w4 at HSF HK ⊢
              go_loopw [75] (fun s75 wr => ∃ k : Nat, s75 = .int .i64 k ∧ k ≤ 4 ∧ Hid (SmC wr P (FX n n X) ((l.foldl (St.next (FX n n X)) S00).ups (FX n n X) k)) ∧ Hid (Kp P.fp w3 wr)) (fun s75 _ => 4 - iof s75)
              case atStart => exact ⟨0, rfl, by omega, HSF, HK⟩
              case round =>
                obtain ⟨k, rfl, hk, HS, HK2⟩ := hrel
                by_cases hk4 : k < 4
                · have HK4 := Lib.hid hk4
                  have gk : (k : Int) < 4 := by omega
                  have gk0 : (0 : Int) ≤ k := by omega
                  have gw : IntKind.i64.wrap ((k : Int) + 1) = ((k + 1 : Nat) : Int) := by rw [IntKind.wrap_i64]; omega
                  have HBK := Lib.hid (ups_bnd HF.out HBF.out k hk)
                  have hll := HLL.out
                  have HM : Hid (((l.foldl (St.next (FX n n X)) S00).ups (FX n n X) k).mx < 1000 ∧ ((l.foldl (St.next (FX n n X)) S00).ups (FX n n X) k).mw < 1000) := Lib.hid (by have h1 := HBK.out.x; have h2 := HBK.out.w; exact ⟨by omega, by omega⟩)
                  clear hk4 hll
                  go_wp2_with (first | (go_at_call 28; refine (plain_c HS.out HF.out HK4.out HM.out.1 HM.out.2).mono ?_; rintro e w5 ⟨rfl, hs5, hk5⟩; have HS5 := Lib.hid hs5; have HK6 := Lib.hid (HK2.out.trans hk5 fun q hq => .inl hq); clear hs5 hk5))
                  exact ⟨⟨k + 1, by simp, HK4.out, Lib.hid (by rw [ups_step]; exact HS5.out), HK6⟩, by have := HK4.out; simp [iof]; omega⟩
                · obtain rfl : k = 4 := by omega
                  have r3 := HS.out.ats.2
                  clear hk4 hk
                  go_wp2
                  go_ret2
                  refine ⟨HBN.out.trans ((HB3.out.mono HBN.out.size).trans (HK2.out.below (Nat.le_trans HBN.out.size HB3.out.size) fun q hq => (HFL.out q hq).1)), .inr (.inr ⟨HTH.out, HGD.out, l, P.cb, rfl, HP.out, HSS.out, HPP.out.2.2.1, HS.out.clk⟩)⟩
        · have HGD := Lib.hid hgood
          clear hgood
          go_wp2_with (first | (go_at_call 27; refine HSYN.out.mono ?_; rintro e w3 ⟨hb3, hor⟩; obtain rfl : e = .returned (.tuple #[.slice none 0 0, .bool false]) := hor.elim (fun h => absurd h.1 HGD.out) (fun h => h.2); have HB3 := Lib.hid hb3; clear hb3 hor HSYN))
          go_ret2
          exact ⟨HBN.out.trans (HB3.out.mono HBN.out.size), .inr (.inl ⟨HTH.out, HGD.out, rfl⟩)⟩
end Go.Proofs.Ytnmgafaebggeiaa.St
