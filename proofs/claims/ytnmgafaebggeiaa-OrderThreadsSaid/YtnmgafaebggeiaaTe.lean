import Derived.Test.YtnmgafaebggeiaaTa
import Derived.Test.YtnmgafaebggeiaaTd
namespace Go.Proofs.Ytnmgafaebggeiaa.St
open Go.ChangeShapes Go.WideShapes Go.ChangeAt Go.RowKit Go.Maps
set_option linter.unusedVariables false
attribute [local go_sem ↓] eql24 neq24
/-! ### OrderThreads: the law's walk -/
theorem eq_of {x y : Ck} (h : x ≠ y) : eqB x.a x.b x.c x.d y.a y.b y.c y.d = false := by
  unfold eqB
  rw [decide_eq_false_iff_not]
  rintro ⟨h1, h2, h3, h4⟩
  cases x
  cases y
  simp_all
theorem bf_of {x y : Ck} (hl : x.le y) (h : x ≠ y) : bfB x.a x.b x.c x.d y.a y.b y.c y.d = true := by
  unfold bfB
  rw [eq_of h]
  unfold leB
  have h0 := hl 0 (by omega)
  have h1 := hl 1 (by omega)
  have h2 := hl 2 (by omega)
  have h3 := hl 3 (by omega)
  simp [Ck.comp] at h0 h1 h2 h3
  simp [h0, h1, h2, h3]
set_option maxRecDepth 100000 in
set_option maxHeartbeats 8000000 in
theorem threads_c (a : Option Addr) (n c : Nat) (X : Nat → Ev) (w : World) (h : EvS w a n X) (hok : ∀ i, i < n → (X i).ok) :
    Calls Try.prog 5 #[.slice a n c] w fun r w' => r = .returned (.bool true) ∧ Below w.heap.size w w' := by
  have HEV := Lib.hid h
  have HOK := Lib.hid hok
  clear h hok
  have HKN : Hid (∀ w, Calls Try.prog 7 #[] w fun e w' => e = .returned (.bool true) ∧ Below w.heap.size w w') := Lib.hid known_c
  by_cases hn : 150 < n
  · have d1 : decide (150 < n) = true := decide_eq_true hn
    have d2 : (150 : Int) < n := by omega
    clear hn
    go_enter Try.func5, Try.ntmps5
    go_wp2_with (first | (go_at_call 7; refine (HKN.out _).mono ?_; rintro e w1 ⟨rfl, hb⟩))
    all_goals (try go_ret)
    all_goals exact ⟨rfl, hb⟩
  · have HN : Hid (n ≤ 150) := Lib.hid (by omega)
    have d0 : decide ((150 : Int) < (n : Int)) = false := decide_eq_false (by omega)
    have d1 : decide (150 < n) = false := decide_eq_false hn
    clear hn
    by_cases hbad : ∃ i, i < n ∧ thB (X i).th = false
    · have HBAD := Lib.hid hbad
      clear hbad
      go_enter Try.func5, Try.ntmps5
      go_wp2_with (first | (go_at_call 7; refine (HKN.out _).mono ?_; rintro e w1 ⟨rfl, hb⟩; have HB1 := Lib.hid hb; clear hb) | (go_at_call 16; refine (Stamp_c (.inl rfl) _ _ _ X _ (HEV.out.past HB1.out) HN.out HOK.out).mono ?_; rintro e w2 hst; obtain ⟨rfl, hb⟩ := hst.a HBAD.out; have HB2 := Lib.hid hb; clear hst hb))
      go_ret
      exact ⟨rfl, HB1.out.trans (HB2.out.mono HB1.out.size)⟩
    · have HBAD := Lib.hid hbad
      by_cases hgood : (FX n n X).good
      · have HG := Lib.hid hgood
        have HTHS : Hid (∀ i, i < n → thB (X i).th = true) := Lib.hid (fun i hi => by
          cases e : thB (X i).th with
          | true => rfl
          | false => exact absurd ⟨i, hi, e⟩ hbad)
        clear hbad hgood
        go_enter Try.func5, Try.ntmps5
        go_wp2_with (first | (go_at_call 7; refine (HKN.out _).mono ?_; rintro e w1 ⟨rfl, hb⟩; have HB1 := Lib.hid hb; clear hb) | (go_at_call 16; refine (Stamp_c (.inl rfl) _ _ _ X _ (HEV.out.past HB1.out) HN.out HOK.out).mono ?_; rintro e w2 hst; obtain ⟨l, cb, rfl, p1, s1, _, r1, hb⟩ := hst.c HBAD.out HG.out; have HB2 := Lib.hid hb; have HR := Lib.hid r1; have HP := Lib.hid (And.intro p1 s1); clear hst hb p1 s1 r1))
        clear d0 d1
        have HFO : Hid (∀ i j, j < i → i < n → (St.fin (FX n n X) l).out j ≠ (St.fin (FX n n X) l).out i ∧ ((X j).th = (X i).th → ((St.fin (FX n n X) l).out j).le ((St.fin (FX n n X) l).out i))) := Lib.hid (fun i j hj hi => fin_out HN.out HTHS.out HG.out HP.out.1 HP.out.2 hj hi)
        have HE2 := Lib.hid ((HEV.out.past HB1.out).past HB2.out)
        have HCL : Hid (cb < w2.heap.size) := Lib.hid (Array.getElem?_eq_some_iff.1 HR.out).1
        generalize (St.fin (FX n n X) l) = SF at HR HFO
        go_loopw [5] (fun s5 wr => ∃ i : Nat, s5 = .int .i64 i ∧ i ≤ n ∧ Hid (Below w2.heap.size w2 wr)) (fun s5 _ => n - iof s5)
        case atStart => exact ⟨0, rfl, by omega, Lib.hid (Below.refl _ _)⟩
        case round =>
          obtain ⟨i, rfl, hi, HB3⟩ := hrel
          by_cases hlt : i < n
          · obtain ⟨b, o, rfl, hbl, hc⟩ : ∃ b o, a = some ⟨b, o, none⟩ ∧ b < w2.heap.size ∧ ∀ i, i < n → EvAt w2 b (o + i * 9) (X i) := by
              rcases HE2.out with h | h
              · omega
              · exact h
            have HBL := Lib.hid hbl
            have HC := Lib.hid hc
            have HLT := Lib.hid hlt
            have gi : (i : Int) < n := by omega
            have gi0 : (0 : Int) ≤ i := by omega
            have hn9 := HN.out
            have gwi : IntKind.i64.wrap ((i : Int) + 1) = ((i + 1 : Nat) : Int) := by rw [IntKind.wrap_i64]; omega
            clear hbl hc hlt hi
            go_wp2
            go_loopw [6] (fun s6 wr => ∃ k : Nat, s6 = .int .i64 k ∧ k ≤ i ∧ Hid (Below w2.heap.size w2 wr)) (fun s6 _ => i - iof s6)
            case atStart => exact ⟨0, rfl, by omega, HB3⟩
            case round =>
              obtain ⟨k, rfl, hk, HB4⟩ := hrel
              clear HB3
              by_cases hki : k < i
              · have HNE := Lib.hid (HFO.out i k hki HLT.out).1
                have HLE := Lib.hid (HFO.out i k hki HLT.out).2
                have gk : (k : Int) < n := by omega
                have gk0 : (0 : Int) ≤ k := by omega
                have gki : (k : Int) < i := by omega
                have gw : IntKind.i64.wrap ((k : Int) + 1) = ((k + 1 : Nat) : Int) := by rw [IntKind.wrap_i64]; omega
                have HKI := Lib.hid hki
                have HXC : Hid (∀ W, Below w2.heap.size w2 W → W.cell? ⟨cb, k * 4, none⟩ = some (.int .i64 (SF.out k).a) ∧ W.cell? ⟨cb, k * 4 + 1, none⟩ = some (.int .i64 (SF.out k).b) ∧ W.cell? ⟨cb, k * 4 + 2, none⟩ = some (.int .i64 (SF.out k).c) ∧ W.cell? ⟨cb, k * 4 + 3, none⟩ = some (.int .i64 (SF.out k).d) ∧ W.cell? ⟨cb, i * 4, none⟩ = some (.int .i64 (SF.out i).a) ∧ W.cell? ⟨cb, i * 4 + 1, none⟩ = some (.int .i64 (SF.out i).b) ∧ W.cell? ⟨cb, i * 4 + 2, none⟩ = some (.int .i64 (SF.out i).c) ∧ W.cell? ⟨cb, i * 4 + 3, none⟩ = some (.int .i64 (SF.out i).d)) := Lib.hid (fun W hb => by
                  have hr := (hb.block cb HCL.out).trans HR.out
                  obtain ⟨x0, x1, x2, x3⟩ := clk_at (F := FX n n X) rfl hr (Nat.lt_trans HKI.out HLT.out)
                  obtain ⟨y0, y1, y2, y3⟩ := clk_at (F := FX n n X) rfl hr HLT.out
                  exact ⟨x0, x1, x2, x3, y0, y1, y2, y3⟩)
                have HTC : Hid (∀ W, Below w2.heap.size w2 W → W.cell? ⟨b, o + k * 9, none⟩ = some (.int .i64 (X k).th) ∧ W.cell? ⟨b, o + i * 9, none⟩ = some (.int .i64 (X i).th)) := Lib.hid (fun W hb => ⟨(hb.cell (p := ⟨b, o + k * 9, none⟩) HBL.out).trans (HC.out k (Nat.lt_trans HKI.out HLT.out)).c0, (hb.cell (p := ⟨b, o + i * 9, none⟩) HBL.out).trans (HC.out i HLT.out).c0⟩)
                have HEB : Hid (eqB (SF.out k).a (SF.out k).b (SF.out k).c (SF.out k).d (SF.out i).a (SF.out i).b (SF.out i).c (SF.out i).d = false) := Lib.hid (eq_of HNE.out)
                clear hki
                by_cases hth : (X k).th = (X i).th
                · have HBF : Hid (bfB (SF.out k).a (SF.out k).b (SF.out k).c (SF.out k).d (SF.out i).a (SF.out i).b (SF.out i).c (SF.out i).d = true) := Lib.hid (bf_of (HLE.out hth) HNE.out)
                  have HTC2 : Hid (∀ W, Below w2.heap.size w2 W → W.cell? ⟨b, o + k * 9, none⟩ = some (.int .i64 (X i).th) ∧ W.cell? ⟨b, o + i * 9, none⟩ = some (.int .i64 (X i).th)) := Lib.hid (fun W hb => by have := HTC.out W hb; rwa [hth] at this)
                  clear hth HLE HNE HTC
                  generalize (X i).th = t at HTC2
                  generalize SF.out k = x at HXC HEB HBF
                  generalize SF.out i = y at HXC HEB HBF
                  have HHO : Hid (∀ W, Below w2.heap.size w2 W → W.cell? ⟨b, o + k * 9, none⟩ = some (.int .i64 t) ∧ W.cell? ⟨b, o + i * 9, none⟩ = some (.int .i64 t) ∧ W.cell? ⟨cb, k * 4, none⟩ = some (.int .i64 x.a) ∧ W.cell? ⟨cb, k * 4 + 1, none⟩ = some (.int .i64 x.b) ∧ W.cell? ⟨cb, k * 4 + 2, none⟩ = some (.int .i64 x.c) ∧ W.cell? ⟨cb, k * 4 + 3, none⟩ = some (.int .i64 x.d) ∧ W.cell? ⟨cb, i * 4, none⟩ = some (.int .i64 y.a) ∧ W.cell? ⟨cb, i * 4 + 1, none⟩ = some (.int .i64 y.b) ∧ W.cell? ⟨cb, i * 4 + 2, none⟩ = some (.int .i64 y.c) ∧ W.cell? ⟨cb, i * 4 + 3, none⟩ = some (.int .i64 y.d)) := Lib.hid (fun W hb => ⟨(HTC2.out W hb).1, (HTC2.out W hb).2, HXC.out W hb⟩)
                  go_wp2
                  refine wp_region_held_drew (S := (fun w' => w'.cell? ⟨b, o + k * 9, none⟩ = some (.int .i64 t) ∧ w'.cell? ⟨b, o + i * 9, none⟩ = some (.int .i64 t) ∧ w'.cell? ⟨cb, k * 4, none⟩ = some (.int .i64 x.a) ∧ w'.cell? ⟨cb, k * 4 + 1, none⟩ = some (.int .i64 x.b) ∧ w'.cell? ⟨cb, k * 4 + 2, none⟩ = some (.int .i64 x.c) ∧ w'.cell? ⟨cb, k * 4 + 3, none⟩ = some (.int .i64 x.d) ∧ w'.cell? ⟨cb, i * 4, none⟩ = some (.int .i64 y.a) ∧ w'.cell? ⟨cb, i * 4 + 1, none⟩ = some (.int .i64 y.b) ∧ w'.cell? ⟨cb, i * 4 + 2, none⟩ = some (.int .i64 y.c) ∧ w'.cell? ⟨cb, i * 4 + 3, none⟩ = some (.int .i64 y.d))) (by kernel_rfl) (HHO.out _ (HB4.out.drew)) (fun hHeld => ?_)
                  have HB5 : Hid (Below w2.heap.size w2 wr.drew) := Lib.hid HB4.out.drew
                  generalize wr.drew = W1 at hHeld HB5 ⊢
                  refine wpAnyH_take (i := 0) (oi := { dst := some 33, op := Go.Op.move (Go.Operand.tmp 0), type := 36, pos := "law.go:95", after := #[], guard := none }) (v := ?_) rfl (by kernel_rfl) (by kernel_rfl) (by kernel_rfl) (fun _ _ _ h => h) (Or.inl ⟨by rfl, ?_⟩) (by assumption) ?_
                  rotate_left
                  · (intro w0 hSw; (try dsimp only at hSw); go_split_ands; go_simp; with_reducible rfl)
                  try simp only [Act.put, List.setIfInBounds_toArray, List.set_cons_zero, List.set_cons_succ]
                  refine wpAnyH_take (i := 1) (oi := { dst := some 34, op := Go.Op.move (Go.Operand.tmp 6), type := 3, pos := "law.go:95", after := #[], guard := none }) (v := ?_) rfl (by kernel_rfl) (by kernel_rfl) (by kernel_rfl) (fun _ _ _ h => h) (Or.inl ⟨by rfl, ?_⟩) (by assumption) ?_
                  rotate_left
                  · (intro w0 hSw; (try dsimp only at hSw); go_split_ands; go_simp; with_reducible rfl)
                  try simp only [Act.put, List.setIfInBounds_toArray, List.set_cons_zero, List.set_cons_succ]
                  refine wpAnyH_take (i := 2) (oi := { dst := some 35, op := Go.Op.indexAddr 36 (Go.Operand.tmp 33) (Go.Operand.tmp 34), type := 0, pos := "law.go:95", after := #[{ on := 0, ground := Go.Ground.data }, { on := 1, ground := Go.Ground.data }], guard := none }) (v := ?_) rfl (by kernel_rfl) (by kernel_rfl) (by kernel_rfl) (fun _ _ _ h => h) (Or.inl ⟨by rfl, ?_⟩) (by assumption) ?_
                  rotate_left
                  · (intro w0 hSw; (try dsimp only at hSw); go_split_ands; go_simp; with_reducible rfl)
                  try simp only [Act.put, List.setIfInBounds_toArray, List.set_cons_zero, List.set_cons_succ]
                  refine wpAnyH_take (i := 3) (oi := { dst := some 36, op := Go.Op.fieldAddr 44 (Go.Operand.tmp 35) 0, type := 0, pos := "law.go:95", after := #[{ on := 2, ground := Go.Ground.data }], guard := none }) (v := ?_) rfl (by kernel_rfl) (by kernel_rfl) (by kernel_rfl) (fun _ _ _ h => h) (Or.inl ⟨by rfl, ?_⟩) (by assumption) ?_
                  rotate_left
                  · (intro w0 hSw; (try dsimp only at hSw); go_split_ands; go_simp; with_reducible rfl)
                  try simp only [Act.put, List.setIfInBounds_toArray, List.set_cons_zero, List.set_cons_succ]
                  refine wpAnyH_take (i := 4) (oi := { dst := some 37, op := Go.Op.load 3 (Go.Operand.tmp 36), type := 3, pos := "law.go:95", after := #[{ on := 3, ground := Go.Ground.data }], guard := none }) (v := ?_) rfl (by kernel_rfl) (by kernel_rfl) (by kernel_rfl) (fun _ _ _ h => h) (Or.inl ⟨by rfl, ?_⟩) (by assumption) ?_
                  rotate_left
                  · (intro w0 hSw; (try dsimp only at hSw); go_split_ands; go_simp; with_reducible rfl)
                  try simp only [Act.put, List.setIfInBounds_toArray, List.set_cons_zero, List.set_cons_succ]
                  refine wpAnyH_take (i := 5) (oi := { dst := some 38, op := Go.Op.move (Go.Operand.tmp 0), type := 36, pos := "law.go:95", after := #[], guard := none }) (v := ?_) rfl (by kernel_rfl) (by kernel_rfl) (by kernel_rfl) (fun _ _ _ h => h) (Or.inl ⟨by rfl, ?_⟩) (by assumption) ?_
                  rotate_left
                  · (intro w0 hSw; (try dsimp only at hSw); go_split_ands; go_simp; with_reducible rfl)
                  try simp only [Act.put, List.setIfInBounds_toArray, List.set_cons_zero, List.set_cons_succ]
                  refine wpAnyH_take (i := 6) (oi := { dst := some 39, op := Go.Op.move (Go.Operand.tmp 5), type := 3, pos := "law.go:95", after := #[], guard := none }) (v := ?_) rfl (by kernel_rfl) (by kernel_rfl) (by kernel_rfl) (fun _ _ _ h => h) (Or.inl ⟨by rfl, ?_⟩) (by assumption) ?_
                  rotate_left
                  · (intro w0 hSw; (try dsimp only at hSw); go_split_ands; go_simp; with_reducible rfl)
                  try simp only [Act.put, List.setIfInBounds_toArray, List.set_cons_zero, List.set_cons_succ]
                  refine wpAnyH_take (i := 7) (oi := { dst := some 40, op := Go.Op.indexAddr 36 (Go.Operand.tmp 38) (Go.Operand.tmp 39), type := 0, pos := "law.go:95", after := #[{ on := 5, ground := Go.Ground.data }, { on := 6, ground := Go.Ground.data }], guard := none }) (v := ?_) rfl (by kernel_rfl) (by kernel_rfl) (by kernel_rfl) (fun _ _ _ h => h) (Or.inl ⟨by rfl, ?_⟩) (by assumption) ?_
                  rotate_left
                  · (intro w0 hSw; (try dsimp only at hSw); go_split_ands; go_simp; with_reducible rfl)
                  try simp only [Act.put, List.setIfInBounds_toArray, List.set_cons_zero, List.set_cons_succ]
                  refine wpAnyH_take (i := 8) (oi := { dst := some 41, op := Go.Op.fieldAddr 44 (Go.Operand.tmp 40) 0, type := 0, pos := "law.go:95", after := #[{ on := 7, ground := Go.Ground.data }], guard := none }) (v := ?_) rfl (by kernel_rfl) (by kernel_rfl) (by kernel_rfl) (fun _ _ _ h => h) (Or.inl ⟨by rfl, ?_⟩) (by assumption) ?_
                  rotate_left
                  · (intro w0 hSw; (try dsimp only at hSw); go_split_ands; go_simp; with_reducible rfl)
                  try simp only [Act.put, List.setIfInBounds_toArray, List.set_cons_zero, List.set_cons_succ]
                  refine wpAnyH_take (i := 9) (oi := { dst := some 42, op := Go.Op.load 3 (Go.Operand.tmp 41), type := 3, pos := "law.go:95", after := #[{ on := 8, ground := Go.Ground.data }], guard := none }) (v := ?_) rfl (by kernel_rfl) (by kernel_rfl) (by kernel_rfl) (fun _ _ _ h => h) (Or.inl ⟨by rfl, ?_⟩) (by assumption) ?_
                  rotate_left
                  · (intro w0 hSw; (try dsimp only at hSw); go_split_ands; go_simp; with_reducible rfl)
                  try simp only [Act.put, List.setIfInBounds_toArray, List.set_cons_zero, List.set_cons_succ]
                  refine wpAnyH_take (i := 10) (oi := { dst := some 43, op := Go.Op.binOp Go.BinOp.eql 3 (Go.Operand.tmp 37) (Go.Operand.tmp 42) 3, type := 4, pos := "law.go:95", after := #[{ on := 4, ground := Go.Ground.data }, { on := 9, ground := Go.Ground.data }], guard := none }) (v := ?_) rfl (by kernel_rfl) (by kernel_rfl) (by kernel_rfl) (fun _ _ _ h => h) (Or.inl ⟨by rfl, ?_⟩) (by assumption) ?_
                  rotate_left
                  · (intro w0 hSw; (try dsimp only at hSw); go_split_ands; go_simp; with_reducible rfl)
                  try simp only [Act.put, List.setIfInBounds_toArray, List.set_cons_zero, List.set_cons_succ]
                  refine wpAnyH_take (i := 11) (oi := { dst := some 44, op := Go.Op.move (Go.Operand.tmp 43), type := 4, pos := "law.go:95", after := #[{ on := 10, ground := Go.Ground.data }], guard := none }) (v := ?_) rfl (by kernel_rfl) (by kernel_rfl) (by kernel_rfl) (fun _ _ _ h => h) (Or.inl ⟨by rfl, ?_⟩) (by assumption) ?_
                  rotate_left
                  · (intro w0 hSw; (try dsimp only at hSw); go_split_ands; go_simp; with_reducible rfl)
                  try simp only [Act.put, List.setIfInBounds_toArray, List.set_cons_zero, List.set_cons_succ]
                  refine wpAnyH_take (i := 12) (oi := { dst := some 45, op := Go.Op.move (Go.Operand.tmp 3), type := 37, pos := "law.go:95", after := #[{ on := 11, ground := Go.Ground.guard }], guard := some (11, true) }) (v := ?_) rfl (by kernel_rfl) (by kernel_rfl) (by kernel_rfl) (fun _ _ _ h => h) (Or.inl ⟨by rfl, ?_⟩) (by assumption) ?_
                  rotate_left
                  · (intro w0 hSw; (try dsimp only at hSw); go_split_ands; go_simp; with_reducible rfl)
                  try simp only [Act.put, List.setIfInBounds_toArray, List.set_cons_zero, List.set_cons_succ]
                  refine wpAnyH_take (i := 13) (oi := { dst := some 46, op := Go.Op.move (Go.Operand.tmp 6), type := 3, pos := "law.go:95", after := #[{ on := 11, ground := Go.Ground.guard }], guard := some (11, true) }) (v := ?_) rfl (by kernel_rfl) (by kernel_rfl) (by kernel_rfl) (fun _ _ _ h => h) (Or.inl ⟨by rfl, ?_⟩) (by assumption) ?_
                  rotate_left
                  · (intro w0 hSw; (try dsimp only at hSw); go_split_ands; go_simp; with_reducible rfl)
                  try simp only [Act.put, List.setIfInBounds_toArray, List.set_cons_zero, List.set_cons_succ]
                  refine wpAnyH_take (i := 14) (oi := { dst := some 47, op := Go.Op.indexAddr 37 (Go.Operand.tmp 45) (Go.Operand.tmp 46), type := 0, pos := "law.go:95", after := #[{ on := 12, ground := Go.Ground.data }, { on := 13, ground := Go.Ground.data }, { on := 11, ground := Go.Ground.guard }], guard := some (11, true) }) (v := ?_) rfl (by kernel_rfl) (by kernel_rfl) (by kernel_rfl) (fun _ _ _ h => h) (Or.inl ⟨by rfl, ?_⟩) (by assumption) ?_
                  rotate_left
                  · (intro w0 hSw; (try dsimp only at hSw); go_split_ands; go_simp; with_reducible rfl)
                  try simp only [Act.put, List.setIfInBounds_toArray, List.set_cons_zero, List.set_cons_succ]
                  refine wpAnyH_take (i := 15) (oi := { dst := some 48, op := Go.Op.load 24 (Go.Operand.tmp 47), type := 24, pos := "law.go:95", after := #[{ on := 14, ground := Go.Ground.data }, { on := 11, ground := Go.Ground.guard }], guard := some (11, true) }) (v := ?_) rfl (by kernel_rfl) (by kernel_rfl) (by kernel_rfl) (fun _ _ _ h => h) (Or.inl ⟨by rfl, ?_⟩) (by assumption) ?_
                  rotate_left
                  · (intro w0 hSw; (try dsimp only at hSw); go_split_ands; go_simp; with_reducible rfl)
                  try simp only [Act.put, List.setIfInBounds_toArray, List.set_cons_zero, List.set_cons_succ]
                  refine wpAnyH_take (i := 16) (oi := { dst := some 49, op := Go.Op.move (Go.Operand.tmp 3), type := 37, pos := "law.go:95", after := #[{ on := 11, ground := Go.Ground.guard }], guard := some (11, true) }) (v := ?_) rfl (by kernel_rfl) (by kernel_rfl) (by kernel_rfl) (fun _ _ _ h => h) (Or.inl ⟨by rfl, ?_⟩) (by assumption) ?_
                  rotate_left
                  · (intro w0 hSw; (try dsimp only at hSw); go_split_ands; go_simp; with_reducible rfl)
                  try simp only [Act.put, List.setIfInBounds_toArray, List.set_cons_zero, List.set_cons_succ]
                  refine wpAnyH_take (i := 17) (oi := { dst := some 50, op := Go.Op.move (Go.Operand.tmp 5), type := 3, pos := "law.go:95", after := #[{ on := 11, ground := Go.Ground.guard }], guard := some (11, true) }) (v := ?_) rfl (by kernel_rfl) (by kernel_rfl) (by kernel_rfl) (fun _ _ _ h => h) (Or.inl ⟨by rfl, ?_⟩) (by assumption) ?_
                  rotate_left
                  · (intro w0 hSw; (try dsimp only at hSw); go_split_ands; go_simp; with_reducible rfl)
                  try simp only [Act.put, List.setIfInBounds_toArray, List.set_cons_zero, List.set_cons_succ]
                  refine wpAnyH_take (i := 18) (oi := { dst := some 51, op := Go.Op.indexAddr 37 (Go.Operand.tmp 49) (Go.Operand.tmp 50), type := 0, pos := "law.go:95", after := #[{ on := 16, ground := Go.Ground.data }, { on := 17, ground := Go.Ground.data }, { on := 11, ground := Go.Ground.guard }], guard := some (11, true) }) (v := ?_) rfl (by kernel_rfl) (by kernel_rfl) (by kernel_rfl) (fun _ _ _ h => h) (Or.inl ⟨by rfl, ?_⟩) (by assumption) ?_
                  rotate_left
                  · (intro w0 hSw; (try dsimp only at hSw); go_split_ands; go_simp; with_reducible rfl)
                  try simp only [Act.put, List.setIfInBounds_toArray, List.set_cons_zero, List.set_cons_succ]
                  refine wpAnyH_take (i := 19) (oi := { dst := some 52, op := Go.Op.load 24 (Go.Operand.tmp 51), type := 24, pos := "law.go:95", after := #[{ on := 18, ground := Go.Ground.data }, { on := 11, ground := Go.Ground.guard }], guard := some (11, true) }) (v := ?_) rfl (by kernel_rfl) (by kernel_rfl) (by kernel_rfl) (fun _ _ _ h => h) (Or.inl ⟨by rfl, ?_⟩) (by assumption) ?_
                  rotate_left
                  · (intro w0 hSw; (try dsimp only at hSw); go_split_ands; go_simp; with_reducible rfl)
                  try simp only [Act.put, List.setIfInBounds_toArray, List.set_cons_zero, List.set_cons_succ]
                  refine wpAnyH_ready (rs := [20]) (by kernel_rfl) (by simp) ?_
                  refine AllReadyH.cons (o := { dst := some 53, op := Go.Op.call { callee := Go.Callee.value (Go.Operand.func 12), args := #[Go.Operand.tmp 48, Go.Operand.tmp 52], argTypes := #[24, 24] }, type := 4, pos := "law.go:95", after := #[{ on := 15, ground := Go.Ground.data }, { on := 19, ground := Go.Ground.data }, { on := 11, ground := Go.Ground.chain }, { on := 11, ground := Go.Ground.guard }], guard := some (11, true) }) rfl (fun K hK => ?_) AllReadyH.nil
                  go_simp
                  go_at_call 12
                  refine (before_c x.a x.b x.c x.d y.a y.b y.c y.d _).mono ?_
                  rintro e u1 ⟨rfl, hb1⟩
                  have HB6 : Hid (Below w2.heap.size w2 u1) := Lib.hid (HB5.out.trans (hb1.mono HB5.out.size))
                  clear hb1
                  rw [HBF.out]
                  refine hK.out _ _ (HHO.out _ HB6.out) (fun hHeld => ?_)
                  clear hK K
                  try simp only [Act.put, List.setIfInBounds_toArray, List.set_cons_zero, List.set_cons_succ]
                  refine wpAnyH_take (i := 21) (oi := { dst := some 54, op := Go.Op.unOp Go.UnOp.not 4 (Go.Operand.tmp 53), type := 4, pos := "law.go:95", after := #[{ on := 20, ground := Go.Ground.data }, { on := 11, ground := Go.Ground.guard }], guard := some (11, true) }) (v := ?_) rfl (by kernel_rfl) (by kernel_rfl) (by kernel_rfl) (fun _ _ _ h => h) (Or.inl ⟨by rfl, ?_⟩) (by assumption) ?_
                  rotate_left
                  · (intro w0 hSw; (try dsimp only at hSw); go_split_ands; go_simp; with_reducible rfl)
                  try simp only [Act.put, List.setIfInBounds_toArray, List.set_cons_zero, List.set_cons_succ]
                  refine wpAnyH_take (i := 22) (oi := { dst := some 55, op := Go.Op.pick (Go.Operand.tmp 44) (Go.Operand.tmp 54) (Go.Operand.const (Go.Value.bool false)), type := 4, pos := "law.go:95", after := #[{ on := 11, ground := Go.Ground.data }, { on := 21, ground := Go.Ground.data }], guard := none }) (v := ?_) rfl (by kernel_rfl) (by kernel_rfl) (by kernel_rfl) (fun _ _ _ h => h) (Or.inl ⟨by rfl, ?_⟩) (by assumption) ?_
                  rotate_left
                  · (intro w0 hSw; (try dsimp only at hSw); go_split_ands; go_simp; with_reducible rfl)
                  try simp only [Act.put, List.setIfInBounds_toArray, List.set_cons_zero, List.set_cons_succ]
                  refine wpAnyH_done (by kernel_rfl) ?_ _
                  clear hHeld
                  go_wp2
                  obtain ⟨x0, x1, x2, x3, y0, y1, y2, y3⟩ := HXC.out u1 HB6.out
                  have he := HEB.out
                  go_quiet (fail)
                  go_wp2
                  exact ⟨⟨k + 1, by simp, HKI.out, Lib.hid (below_drewN HB6.out _)⟩, by have := HKI.out; simp [iof]; omega⟩
                · have q1 : ((X k).th == (X i).th) = false := by simpa using hth
                  obtain ⟨t1, t2⟩ := HTC.out wr HB4.out
                  obtain ⟨x0, x1, x2, x3, y0, y1, y2, y3⟩ := HXC.out wr HB4.out
                  have he := HEB.out
                  clear hth HLE HNE
                  go_wp2
                  go_quiet (fail)
                  go_wp2
                  go_quiet (fail)
                  go_wp2
                  exact ⟨⟨k + 1, by simp, HKI.out, Lib.hid (below_drewN HB4.out _)⟩, by have := HKI.out; simp [iof]; omega⟩
              · obtain rfl : k = i := by omega
                clear hki hk
                go_wp2
                exact ⟨⟨k + 1, by simp, HLT.out, HB4⟩, by have := HLT.out; simp [iof]; omega⟩
          · obtain rfl : i = n := by omega
            clear hlt hi
            go_wp2
            go_ret
            exact ⟨rfl, HB1.out.trans ((HB2.out.trans (HB3.out.mono HB2.out.size)).mono HB1.out.size)⟩
      · have HG := Lib.hid hgood
        clear hbad hgood
        go_enter Try.func5, Try.ntmps5
        go_wp2_with (first | (go_at_call 7; refine (HKN.out _).mono ?_; rintro e w1 ⟨rfl, hb⟩; have HB1 := Lib.hid hb; clear hb) | (go_at_call 16; refine (Stamp_c (.inl rfl) _ _ _ X _ (HEV.out.past HB1.out) HN.out HOK.out).mono ?_; rintro e w2 hst; obtain ⟨rfl, hb⟩ := hst.b HBAD.out HG.out; have HB2 := Lib.hid hb; clear hst hb))
        go_ret
        exact ⟨rfl, HB1.out.trans (HB2.out.mono HB1.out.size)⟩
end Go.Proofs.Ytnmgafaebggeiaa.St
