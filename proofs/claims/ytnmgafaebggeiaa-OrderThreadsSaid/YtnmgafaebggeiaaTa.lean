import Derived.Test.YtnmgafaebggeiaaSq
import Derived.Test.YtnmgafaebggeiaaSr
import Derived.Test.YtnmgafaebggeiaaKn
namespace Go.Proofs.Ytnmgafaebggeiaa.St
open Go.ChangeShapes Go.WideShapes Go.ChangeAt Go.RowKit Go.Maps
set_option linter.unusedVariables false
attribute [local go_sem ↓] eql24 neq24
/-! ### OrderShifts: the law's walk -/
def Ev.cs (e : Ev) : List Value := [.int .i64 e.th, .int .i64 e.kd, .int .i64 e.ob, .int .i64 e.sl, .int .i64 e.va, .bool e.rf, .int .i64 e.f1, .int .i64 e.f2, .int .i64 e.tm]
def evL (Y : Nat → Ev) (j : Nat) : List Value := (List.range j).flatMap fun i => (Y i).cs
theorem evL_step (Y : Nat → Ev) (j : Nat) : evL Y (j + 1) = evL Y j ++ (Y j).cs := by
  unfold evL
  rw [List.range_succ, List.flatMap_append]
  simp
theorem evL_len (Y : Nat → Ev) : ∀ j, (evL Y j).length = j * 9
  | 0 => rfl
  | j + 1 => by
    rw [evL_step, List.length_append, evL_len Y j]
    show j * 9 + 9 = _
    omega
theorem evL_get (Y : Nat → Ev) : ∀ (n i r : Nat), i < n → r < 9 → (evL Y n)[i * 9 + r]? = (Y i).cs[r]?
  | 0, i, r, h, _ => by omega
  | n + 1, i, r, h, hr => by
    rw [evL_step]
    by_cases e : i < n
    · rw [List.getElem?_append_left (by rw [evL_len]; omega)]
      exact evL_get Y n i r e hr
    · have : i = n := by omega
      subst this
      rw [List.getElem?_append_right (by rw [evL_len]; omega), evL_len]
      congr 1
      omega
theorem info44z : (Try.prog.info? 44).map (fun i => (i.zero, i.size, i.bytes)) = some (some (Value.agg #[.int .i64 0, .int .i64 0, .int .i64 0, .int .i64 0, .int .i64 0, .bool false, .int .i64 0, .int .i64 0, .int .i64 0]), 9, 72) := by kernel_rfl
theorem own_evs {w : World} {base n : Nat} {v : Value} {Y : Nat → Ev} (h : w.ownsRow base 44 9 v n (evL Y n)) : ∃ a c, v = .slice a n c ∧ EvS w a n Y := by
  obtain ⟨a, c, rfl, hf⟩ := own_form h
  refine ⟨a, c, rfl, ?_⟩
  rcases hf with h0 | ⟨g, rfl⟩
  · exact .inl h0
  · obtain ⟨q1, _⟩ := own_cells h
    by_cases h0 : n = 0
    · exact .inl h0
    refine .inr ⟨g, 0, rfl, ?_, fun i hi => ?_⟩
    · exact (h.lt g rfl).2
    · rw [Nat.zero_add]
      have hc : ∀ r, r < 9 → ∀ u, (Y i).cs[r]? = some u → w.cell? ⟨g, i * 9 + r, none⟩ = some u := fun r hr u hu => q1 _ _ ((evL_get Y n i r hi hr).trans hu)
      exact ⟨hc 0 (by omega) _ rfl, hc 1 (by omega) _ rfl, hc 2 (by omega) _ rfl, hc 3 (by omega) _ rfl, hc 4 (by omega) _ rfl, hc 5 (by omega) _ rfl, hc 6 (by omega) _ rfl, hc 7 (by omega) _ rfl, hc 8 (by omega) _ rfl⟩
theorem app_ev (W : World) (base n : Nat) (v : Value) (xs : List Value) (e : Ev) (ho : W.ownsRow base 44 9 v n xs) (hn : n ≤ 1000) (hb : base ≤ W.heap.size) :
    ∃ v' W', (Builtin.append_ #[36, 36] 36 #[v, .slice (some ⟨W.heap.size, 0, none⟩) 1 1]).run Try.prog (W.alloc (.cells #[.int .i64 e.th, .int .i64 e.kd, .int .i64 e.ob, .int .i64 e.sl, .int .i64 e.va, .bool e.rf, .int .i64 e.f1, .int .i64 e.f2, .int .i64 e.tm] 44)) = .ok v' W' ∧ W'.ownsRow base 44 9 v' (n + 1) (xs ++ e.cs) ∧ Below base W W' := by
  have hb1 : Below W.heap.size W (W.alloc (.cells #[.int .i64 e.th, .int .i64 e.kd, .int .i64 e.ob, .int .i64 e.sl, .int .i64 e.va, .bool e.rf, .int .i64 e.f1, .int .i64 e.f2, .int .i64 e.tm] 44)) := (Below.refl _ _).alloc (Nat.le_refl _) _
  have hr := rowAt_new W #[.int .i64 e.th, .int .i64 e.kd, .int .i64 e.ob, .int .i64 e.sl, .int .i64 e.va, .bool e.rf, .int .i64 e.f1, .int .i64 e.f2, .int .i64 e.tm] 44
  obtain ⟨i0, hi, hz0, hz1, hz2⟩ := info_parts info44z
  obtain ⟨v', W', h2, h3, h4, _, h5⟩ := run_append_own_at (P := Try.prog) (W.alloc (.cells #[.int .i64 e.th, .int .i64 e.kd, .int .i64 e.ob, .int .i64 e.sl, .int .i64 e.va, .bool e.rf, .int .i64 e.f1, .int .i64 e.f2, .int .i64 e.tm] 44)) base 36 36 44 i0 _ 9 72 Try.underlying36 hi hz0 hz1 hz2 rfl (by omega) v n xs (own_past ho hb1) ⟨W.heap.size, 0, none⟩ 1 1 e.cs rfl (fun j u hj => by
    have hl : j < 9 := (List.getElem?_eq_some_iff.1 hj).1
    rw [Go.WideShapes.add_plain, Nat.zero_add]
    have h9 : j = 0 ∨ j = 1 ∨ j = 2 ∨ j = 3 ∨ j = 4 ∨ j = 5 ∨ j = 6 ∨ j = 7 ∨ j = 8 := by omega
    rcases h9 with rfl | rfl | rfl | rfl | rfl | rfl | rfl | rfl | rfl <;> (injection hj with hj; subst hj)
    · exact rowAt_cell hr 0
    · exact rowAt_cell hr 1
    · exact rowAt_cell hr 2
    · exact rowAt_cell hr 3
    · exact rowAt_cell hr 4
    · exact rowAt_cell hr 5
    · exact rowAt_cell hr 6
    · exact rowAt_cell hr 7
    · exact rowAt_cell hr 8) (fun u hu => by
    unfold Ev.cs at hu
    simp only [List.mem_cons, List.not_mem_nil, or_false] at hu
    rcases hu with rfl | rfl | rfl | rfl | rfl | rfl | rfl | rfl | rfl <;> rfl) (by unfold maxLen; omega) (by omega) (Nat.le_trans hb hb1.size)
  exact ⟨v', W', h2, h3, ((Below.refl base W).alloc hb _).grown h4 (Nat.le_trans hb hb1.size) fun g hg => (ho.lt g hg).1⟩
theorem clk_at {W : World} {k n : Nat} {F : Fx} {S : St} (hN : F.N = n) (h : W.heap[k]? = some (.cells (rowC F S) 24 (0, 0))) {j : Nat} (hj : j < n) : W.cell? ⟨k, j * 4, none⟩ = some (.int .i64 (S.out j).a) ∧ W.cell? ⟨k, j * 4 + 1, none⟩ = some (.int .i64 (S.out j).b) ∧ W.cell? ⟨k, j * 4 + 2, none⟩ = some (.int .i64 (S.out j).c) ∧ W.cell? ⟨k, j * 4 + 3, none⟩ = some (.int .i64 (S.out j).d) := by
  subst hN
  have h1 : ∀ r, r < 4 → W.cell? ⟨k, j * 4 + r, none⟩ = some ((S.out j).at r) := fun r hr => by
    rw [cell_of_row W k (j * 4 + r) _ 24 _ h]
    unfold rowC
    have : j * 4 + r < F.N * 4 := by omega
    simp [this]
    rw [show (j * 4 + r) / 4 = j by omega, show r % 4 = r by omega]
  exact ⟨h1 0 (by omega), h1 1 (by omega), h1 2 (by omega), h1 3 (by omega)⟩
theorem StampP.a {n : Nat} {X : Nat → Ev} {w w' : World} {r : Ending} (h : StampP n X w r w') (hb : ∃ i, i < n ∧ thB (X i).th = false) : r = .returned (.tuple #[.slice none 0 0, .int .i64 1]) ∧ Below w.heap.size w w' := by
  obtain ⟨i, hi, hi2⟩ := hb
  rcases h.2 with h1 | h1 | h1
  · exact ⟨h1.2, h.1⟩
  · rw [h1.1 i hi] at hi2; cases hi2
  · rw [h1.1 i hi] at hi2; cases hi2
theorem StampP.b {n : Nat} {X : Nat → Ev} {w w' : World} {r : Ending} (h : StampP n X w r w') (hb : ¬ ∃ i, i < n ∧ thB (X i).th = false) (hg : ¬ (FX n n X).good) : r = .returned (.tuple #[.slice none 0 0, .int .i64 27]) ∧ Below w.heap.size w w' := by
  rcases h.2 with h1 | h1 | h1
  · exact absurd h1.1 hb
  · exact ⟨h1.2.2, h.1⟩
  · exact absurd h1.2.1 hg
theorem StampP.c {n : Nat} {X : Nat → Ev} {w w' : World} {r : Ending} (h : StampP n X w r w') (hb : ¬ ∃ i, i < n ∧ thB (X i).th = false) (hg : (FX n n X).good) : ∃ l k, r = .returned (.tuple #[.slice (some ⟨k, 0, none⟩) n n, .int .i64 0]) ∧ l.Perm ((FX n n X).syl 4) ∧ l.Pairwise (fun i j => (FX n n X).tm i < (FX n n X).tm j) ∧ w.heap.size ≤ k ∧ w'.heap[k]? = some (.cells (rowC (FX n n X) (St.fin (FX n n X) l)) 24 (0, 0)) ∧ Below w.heap.size w w' := by
  rcases h.2 with h1 | h1 | h1
  · exact absurd h1.1 hb
  · exact absurd hg h1.2.1
  · obtain ⟨l, k, h2, h3, h4, h5, h6⟩ := h1.2.2
    exact ⟨l, k, h2, h3, h4, h5, h6, h.1⟩
set_option maxRecDepth 100000 in
set_option maxHeartbeats 8000000 in
theorem shifts_c (a : Option Addr) (n c : Nat) (X : Nat → Ev) (b s : Int) (w : World) (h : EvS w a n X) (hok : ∀ i, i < n → (X i).ok) :
    Calls Try.prog 6 #[.slice a n c, .int .i64 b, .int .i64 s] w fun r w' => r = .returned (.bool true) ∧ Below w.heap.size w w' := by
  have HEV := Lib.hid h
  have HOK := Lib.hid hok
  clear h hok
  have HKN : Hid (∀ w, Calls Try.prog 7 #[] w fun e w' => e = .returned (.bool true) ∧ Below w.heap.size w w') := Lib.hid known_c
  by_cases hn : 150 < n
  · have d1 : decide (150 < n) = true := decide_eq_true hn
    have d2 : (150 : Int) < n := by omega
    clear hn
    go_enter Try.func6, Try.ntmps6
    go_wp2_with (first | (go_at_call 7; refine (HKN.out _).mono ?_; rintro e w1 ⟨rfl, hb⟩))
    all_goals (try go_ret)
    all_goals exact ⟨rfl, hb⟩
  · have HN : Hid (n ≤ 150) := Lib.hid (by omega)
    have d1 : decide ((150 : Int) < (n : Int)) = false := decide_eq_false (by omega)
    clear hn
    by_cases h1 : b < -1000
    · have d2 : decide (b < -1000) = true := decide_eq_true h1
      clear h1
      go_enter Try.func6, Try.ntmps6
      go_wp2_with (first | (go_at_call 7; refine (HKN.out _).mono ?_; rintro e w1 ⟨rfl, hb⟩))
      all_goals (try go_ret)
      all_goals exact ⟨rfl, hb⟩
    have d2 : decide (b < -1000) = false := decide_eq_false h1
    by_cases h2 : 1000 < b
    · have d3 : decide (1000 < b) = true := decide_eq_true h2
      clear h1 h2
      go_enter Try.func6, Try.ntmps6
      go_wp2_with (first | (go_at_call 7; refine (HKN.out _).mono ?_; rintro e w1 ⟨rfl, hb⟩))
      all_goals (try go_ret)
      all_goals exact ⟨rfl, hb⟩
    have d3 : decide (1000 < b) = false := decide_eq_false h2
    by_cases h3 : s < 1
    · have d4 : decide (s < 1) = true := decide_eq_true h3
      clear h1 h2 h3
      go_enter Try.func6, Try.ntmps6
      go_wp2_with (first | (go_at_call 7; refine (HKN.out _).mono ?_; rintro e w1 ⟨rfl, hb⟩))
      all_goals (try go_ret)
      all_goals exact ⟨rfl, hb⟩
    have d4 : decide (s < 1) = false := decide_eq_false h3
    by_cases h4 : 1000 < s
    · have d5 : decide (1000 < s) = true := decide_eq_true h4
      clear h1 h2 h3 h4
      go_enter Try.func6, Try.ntmps6
      go_wp2_with (first | (go_at_call 7; refine (HKN.out _).mono ?_; rintro e w1 ⟨rfl, hb⟩))
      all_goals (try go_ret)
      all_goals exact ⟨rfl, hb⟩
    have d5 : decide (1000 < s) = false := decide_eq_false h4
    have HBS : Hid ((-1000 ≤ b ∧ b ≤ 1000) ∧ 1 ≤ s ∧ s ≤ 1000) := Lib.hid ⟨⟨by omega, by omega⟩, by omega, by omega⟩
    clear h1 h2 h3 h4
    go_enter Try.func6, Try.ntmps6
    go_wp2_with (first | (go_at_call 7; refine (HKN.out _).mono ?_; rintro e w1 ⟨rfl, hb⟩; have HB1 := Lib.hid hb; clear hb))
    clear d1 d2 d3 d4 d5
    go_loopw [7, 8] (fun s7 s8 wr => ∃ j : Nat, s8 = .int .i64 j ∧ j ≤ n ∧ Hid (wr.ownsRow w1.heap.size 44 9 s7 j (evL (movX b s X) j)) ∧ Hid (∀ i, i < j → -100000 ≤ (X i).tm ∧ (X i).tm ≤ 100000) ∧ Hid (Below w1.heap.size w1 wr)) (fun _ s8 _ => n - iof s8)
    case atStart => exact ⟨0, rfl, by omega, Lib.hid ⟨rfl, .inl ⟨rfl, rfl⟩⟩, Lib.hid (fun i hi => absurd hi (Nat.not_lt_zero i)), Lib.hid (Below.refl _ _)⟩
    case round =>
      obtain ⟨j, rfl, hj, HO, HT, HB⟩ := hrel
      obtain ⟨a7, c7, rfl, hf7⟩ := own_form HO.out
      by_cases hlt : j < n
      · obtain ⟨b0, o, rfl, hbl, hc⟩ : ∃ b o, a = some ⟨b, o, none⟩ ∧ b < wr.heap.size ∧ ∀ i, i < n → EvAt wr b (o + i * 9) (X i) := by
          rcases (HEV.out.past HB1.out).past HB.out with h | h
          · omega
          · exact h
        have hc := hc j hlt
        have c0 := hc.c0
        have c1 := hc.c1
        have c2 := hc.c2
        have c3 := hc.c3
        have c4 := hc.c4
        have c5 := hc.c5
        have c6 := hc.c6
        have c7' := hc.c7
        have c8 := hc.c8
        have g1 : (j : Int) < n := by omega
        have g0 : (0 : Int) ≤ j := by omega
        have hn9 := HN.out
        have gw : IntKind.i64.wrap ((j : Int) + 1) = ((j + 1 : Nat) : Int) := by rw [IntKind.wrap_i64]; omega
        have HLT := Lib.hid hlt
        have HBN : Hid (Below w1.heap.size w1 (wr.alloc (.cells #[.int .i64 (X j).th, .int .i64 (X j).kd, .int .i64 (X j).ob, .int .i64 (X j).sl, .int .i64 (X j).va, .bool (X j).rf, .int .i64 (X j).f1, .int .i64 (X j).f2, .int .i64 (X j).tm] 44))) := Lib.hid (HB.out.alloc HB.out.size _)
        clear hc hbl hlt hf7 hn9
        by_cases t1 : (X j).tm < -100000
        · have e1 : decide ((X j).tm < -100000) = true := decide_eq_true t1
          clear t1
          go_wp2
          all_goals (try go_ret)
          all_goals exact ⟨rfl, HB1.out.trans (HBN.out.mono HB1.out.size)⟩
        have e1 : decide ((X j).tm < -100000) = false := decide_eq_false t1
        by_cases t2 : 100000 < (X j).tm
        · have e2 : decide (100000 < (X j).tm) = true := decide_eq_true t2
          clear t1 t2
          go_wp2
          all_goals (try go_ret)
          all_goals exact ⟨rfl, HB1.out.trans (HBN.out.mono HB1.out.size)⟩
        have e2 : decide (100000 < (X j).tm) = false := decide_eq_false t2
        have HTM : Hid (-100000 ≤ (X j).tm ∧ (X j).tm ≤ 100000) := Lib.hid ⟨by omega, by omega⟩
        have HPR : Hid (-100000000 ≤ (X j).tm * s ∧ (X j).tm * s ≤ 100000000) := Lib.hid (by
          obtain ⟨_, hs1, hs2⟩ := HBS.out
          have h1 : (X j).tm * s ≤ 100000 * s := Int.mul_le_mul_of_nonneg_right (by omega) (by omega)
          have h2 : (-100000) * s ≤ (X j).tm * s := Int.mul_le_mul_of_nonneg_right (by omega) (by omega)
          exact ⟨by omega, by omega⟩)
        have gm : IntKind.i64.wrap ((X j).tm * s) = (X j).tm * s := by
          have := HPR.out
          generalize (X j).tm * s = p at this ⊢
          rw [IntKind.wrap_i64]
          omega
        have ga : IntKind.i64.wrap ((X j).tm * s + b) = (X j).tm * s + b := by
          have := HPR.out
          have := HBS.out
          generalize (X j).tm * s = p at *
          rw [IntKind.wrap_i64]
          omega
        clear t1 t2
        go_upto_region 13 with (fail)
        have HX : Hid (rowAt (wr.alloc (.cells #[.int .i64 (X j).th, .int .i64 (X j).kd, .int .i64 (X j).ob, .int .i64 (X j).sl, .int .i64 (X j).va, .bool (X j).rf, .int .i64 (X j).f1, .int .i64 (X j).f2, .int .i64 ((X j).tm * s + b)] 44)) wr.heap.size = some #[.int .i64 (X j).th, .int .i64 (X j).kd, .int .i64 (X j).ob, .int .i64 (X j).sl, .int .i64 (X j).va, .bool (X j).rf, .int .i64 (X j).f1, .int .i64 (X j).f2, .int .i64 ((X j).tm * s + b)]) := Lib.hid (rowAt_new _ _ _)
        have HBU : Hid (Below wr.heap.size wr (wr.alloc (.cells #[.int .i64 (X j).th, .int .i64 (X j).kd, .int .i64 (X j).ob, .int .i64 (X j).sl, .int .i64 (X j).va, .bool (X j).rf, .int .i64 (X j).f1, .int .i64 (X j).f2, .int .i64 ((X j).tm * s + b)] 44))) := Lib.hid ((Below.refl _ _).alloc (Nat.le_refl _) _)
        generalize (wr.alloc (.cells #[.int .i64 (X j).th, .int .i64 (X j).kd, .int .i64 (X j).ob, .int .i64 (X j).sl, .int .i64 (X j).va, .bool (X j).rf, .int .i64 (X j).f1, .int .i64 (X j).f2, .int .i64 ((X j).tm * s + b)] 44)) = U at HX HBU ⊢
        clear c0 c1 c2 c3 c4 c5 c6 c7' c8 gm ga e1 e2 HBN
        generalize wr.heap.size = x at HX ⊢
        have r0 := rowAt_cell HX.out 0
        have r1 := rowAt_cell HX.out 1
        have r2 := rowAt_cell HX.out 2
        have r3 := rowAt_cell HX.out 3
        have r4 := rowAt_cell HX.out 4
        have r5 := rowAt_cell HX.out 5
        have r6 := rowAt_cell HX.out 6
        have r7 := rowAt_cell HX.out 7
        have r8 := rowAt_cell HX.out 8
        simp only [List.getElem?_toArray, List.getElem?_cons_zero, List.getElem?_cons_succ] at r0 r1 r2 r3 r4 r5 r6 r7 r8
        obtain ⟨v', W', hrn, ho9, hb9⟩ := app_ev U w1.heap.size j (.slice a7 j c7) _ (movX b s X j) (own_past HO.out HBU.out) (by have := HN.out; omega) (Nat.le_trans HB.out.size HBU.out.size)
        have HRN : Hid ((Builtin.append_ #[36, 36] 36 #[.slice a7 j c7, .slice (some ⟨U.heap.size, 0, none⟩) 1 1]).run Try.prog (U.alloc (.cells #[.int .i64 (X j).th, .int .i64 (X j).kd, .int .i64 (X j).ob, .int .i64 (X j).sl, .int .i64 (X j).va, .bool (X j).rf, .int .i64 (X j).f1, .int .i64 (X j).f2, .int .i64 ((X j).tm * s + b)] 44)) = .ok v' W') := Lib.hid hrn
        have HO9 : Hid (W'.ownsRow w1.heap.size 44 9 v' (j + 1) (evL (movX b s X) (j + 1))) := Lib.hid (by rw [evL_step]; exact ho9)
        have HB9 : Hid (Below w1.heap.size w1 W') := Lib.hid (HB.out.trans ((HBU.out.mono HB.out.size).trans hb9))
        have HT9 : Hid (∀ i, i < j + 1 → -100000 ≤ (X i).tm ∧ (X i).tm ≤ 100000) := Lib.hid (fun i hi => by
          rcases Nat.lt_or_ge i j with h | h
          · exact HT.out i h
          · have : i = j := by omega
            rw [this]; exact HTM.out)
        clear hrn ho9 hb9
        go_wp2_with (at_builtin; refine wpList_append_run' rfl _ _ _ rfl _ _ _ _ rfl rfl HRN.out ?_)
        exact ⟨⟨j + 1, by simp, HLT.out, HO9, HT9, HB9⟩, by have := HLT.out; simp [iof]; omega⟩
      · obtain rfl : j = n := by omega
        clear hlt hj hf7
        have HE1 := Lib.hid ((HEV.out.past HB1.out).past HB.out)
        have HE2 : Hid (EvS wr a7 j (movX b s X)) := Lib.hid (by
          obtain ⟨a', c', e, he⟩ := own_evs HO.out
          injection e with e1 e2 e3
          rw [e1]
          exact he)
        have HOK2 : Hid (∀ i, i < j → (movX b s X i).ok) := Lib.hid (fun i hi => by
          obtain ⟨k1, k2, k3, k4, k5, k6⟩ := HOK.out i hi
          obtain ⟨h1, h2⟩ := HT.out i hi
          obtain ⟨hb, hs1, hs2⟩ := HBS.out
          have q1 : (X i).tm * s ≤ 100000 * s := Int.mul_le_mul_of_nonneg_right h2 (by omega)
          have q2 : (-100000) * s ≤ (X i).tm * s := Int.mul_le_mul_of_nonneg_right h1 (by omega)
          refine ⟨k1, k2, k3, k4, k5, ?_⟩
          show Wf ((X i).tm * s + b)
          unfold Wf
          omega)
        have HS1 := Lib.hid HBS.out.2.1
        by_cases hbad : ∃ i, i < j ∧ thB (X i).th = false
        · have HBAD := Lib.hid hbad
          clear hbad
          go_upto_region 15 with (first | (go_at_call 16; refine (Stamp_c (.inr (.inl rfl)) _ _ _ X _ HE1.out HN.out HOK.out).mono ?_; rintro e w2 hst; obtain ⟨rfl, hb⟩ := hst.a HBAD.out; have HB2 := Lib.hid hb; have HE3 := Lib.hid (HE2.out.past hb); clear hst hb))
          go_wp2_with (first | (go_at_call 16; refine (Stamp_c (.inr (.inr rfl)) _ _ _ (movX b s X) _ HE3.out HN.out HOK2.out).mono ?_; rintro e w3 hst; obtain ⟨rfl, hb⟩ := hst.a HBAD.out; have HB3 := Lib.hid hb; clear hst hb))
          refine wp_loop_rounds 1 ?_
          rw [rounds_succ]
          go_wp2
          go_ret
          exact ⟨rfl, HB1.out.trans ((HB.out.mono HB1.out.size).trans ((HB2.out.mono (Nat.le_trans HB1.out.size HB.out.size)).trans (HB3.out.mono (Nat.le_trans HB1.out.size (Nat.le_trans HB.out.size HB2.out.size)))))⟩
        · by_cases hgood : (FX j j X).good
          · have HBAD := Lib.hid hbad
            have HG := Lib.hid hgood
            have HG2 : Hid ((FX j j (movX b s X)).good) := Lib.hid ((good_mov HS1.out).2 hgood)
            clear hbad hgood
            go_upto_region 15 with (first | (go_at_call 16; refine (Stamp_c (.inr (.inl rfl)) _ _ _ X _ HE1.out HN.out HOK.out).mono ?_; rintro e w2 hst; obtain ⟨l1, k1, rfl, p1, s1, hk1, r1, hb⟩ := hst.c HBAD.out HG.out; have HB2 := Lib.hid hb; have HE3 := Lib.hid (HE2.out.past hb); have HR1 := Lib.hid r1; have HP1 := Lib.hid (And.intro p1 s1); clear hst hb p1 s1 hk1 r1))
            go_wp2_with (first | (go_at_call 16; refine (Stamp_c (.inr (.inr rfl)) _ _ _ (movX b s X) _ HE3.out HN.out HOK2.out).mono ?_; rintro e w3 hst; obtain ⟨l2, k2, rfl, p1, s1, hk1, r1, hb⟩ := hst.c HBAD.out HG2.out; have HB3 := Lib.hid hb; have HR2 := Lib.hid r1; have HP2 := Lib.hid (And.intro p1 s1); clear hst hb p1 s1 hk1 r1))
            have HFE := Lib.hid (fin_mov HS1.out HP1.out.1 HP1.out.2 HP2.out.1 HP2.out.2)
            go_loopw [14] (fun s14 wr => ∃ q : Nat, s14 = .int .i64 q ∧ q ≤ j ∧ Hid (Below w3.heap.size w3 wr)) (fun s14 _ => j - iof s14)
            case atStart => exact ⟨0, rfl, by omega, Lib.hid (Below.refl _ _)⟩
            case round =>
              obtain ⟨q, rfl, hq, HB4⟩ := hrel
              by_cases hlt : q < j
              · have HL1 : Hid (k1 < w2.heap.size) := Lib.hid (Array.getElem?_eq_some_iff.1 HR1.out).1
                have HL2 : Hid (k2 < w3.heap.size) := Lib.hid (Array.getElem?_eq_some_iff.1 HR2.out).1
                obtain ⟨x0, x1, x2, x3⟩ := clk_at (F := FX j j X) rfl ((HB4.out.block k1 (Nat.lt_of_lt_of_le HL1.out HB3.out.size)).trans ((HB3.out.block k1 HL1.out).trans HR1.out)) hlt
                obtain ⟨y0, y1, y2, y3⟩ := clk_at (F := FX j j (movX b s X)) rfl ((HB4.out.block k2 HL2.out).trans HR2.out) hlt
                rw [HFE.out] at y0 y1 y2 y3
                generalize (St.fin (FX j j X) l1).out q = z at x0 x1 x2 x3 y0 y1 y2 y3
                have he : eqB z.a z.b z.c z.d z.a z.b z.c z.d = true := by unfold eqB; simp
                have g1 : (q : Int) < j := by omega
                have g0 : (0 : Int) ≤ q := by omega
                have hn9 := HN.out
                have gw : IntKind.i64.wrap ((q : Int) + 1) = ((q + 1 : Nat) : Int) := by rw [IntKind.wrap_i64]; omega
                have HLT := Lib.hid hlt
                clear hlt hn9
                go_wp2
                go_quiet (fail)
                go_wp2
                exact ⟨⟨q + 1, by simp, HLT.out, Lib.hid (below_drewN HB4.out _)⟩, by have := HLT.out; simp [iof]; omega⟩
              · obtain rfl : q = j := by omega
                clear hlt hq
                go_wp2
                go_ret
                exact ⟨rfl, HB1.out.trans ((HB.out.mono HB1.out.size).trans ((HB2.out.mono (Nat.le_trans HB1.out.size HB.out.size)).trans ((HB3.out.trans (HB4.out.mono HB3.out.size)).mono (Nat.le_trans HB1.out.size (Nat.le_trans HB.out.size HB2.out.size)))))⟩
          · have HBAD := Lib.hid hbad
            have HG := Lib.hid hgood
            have HG2 : Hid (¬ (FX j j (movX b s X)).good) := Lib.hid (fun h => hgood ((good_mov HS1.out).1 h))
            clear hbad hgood
            go_upto_region 15 with (first | (go_at_call 16; refine (Stamp_c (.inr (.inl rfl)) _ _ _ X _ HE1.out HN.out HOK.out).mono ?_; rintro e w2 hst; obtain ⟨rfl, hb⟩ := hst.b HBAD.out HG.out; have HB2 := Lib.hid hb; have HE3 := Lib.hid (HE2.out.past hb); clear hst hb))
            go_wp2_with (first | (go_at_call 16; refine (Stamp_c (.inr (.inr rfl)) _ _ _ (movX b s X) _ HE3.out HN.out HOK2.out).mono ?_; rintro e w3 hst; obtain ⟨rfl, hb⟩ := hst.b HBAD.out HG2.out; have HB3 := Lib.hid hb; clear hst hb))
            refine wp_loop_rounds 1 ?_
            rw [rounds_succ]
            go_wp2
            go_ret
            exact ⟨rfl, HB1.out.trans ((HB.out.mono HB1.out.size).trans ((HB2.out.mono (Nat.le_trans HB1.out.size HB.out.size)).trans (HB3.out.mono (Nat.le_trans HB1.out.size (Nat.le_trans HB.out.size HB2.out.size)))))⟩
end Go.Proofs.Ytnmgafaebggeiaa.St
