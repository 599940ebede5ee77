import Derived.Test.YtnmgafaebggeiaaSh
namespace Go.Proofs.Ytnmgafaebggeiaa.St
open Go.ChangeShapes Go.WideShapes Go.ChangeAt Go.RowKit Go.Maps
set_option linter.unusedVariables false
/-! ### The small ones: threads, kinds, isSync -/
/-- A slice of events. -/
def EvS (w : World) (a : Option Addr) (n : Nat) (X : Nat → Ev) : Prop := n = 0 ∨ ∃ b o, a = some ⟨b, o, none⟩ ∧ b < w.heap.size ∧ ∀ i, i < n → EvAt w b (o + i * 9) (X i)
theorem EvS.past {w w' : World} {a : Option Addr} {n : Nat} {X : Nat → Ev} (h : EvS w a n X) (hb : Below w.heap.size w w') : EvS w' a n X := by
  rcases h with h | ⟨b, o, e, hl, hc⟩
  · exact .inl h
  · exact .inr ⟨b, o, e, Nat.lt_of_lt_of_le hl hb.size, fun i hi => (hc i hi).kept fun q => hb.cell (p := ⟨b, q, none⟩) hl⟩
def thB (t : Int) : Bool := decide (0 ≤ t) && decide (t < 4)
theorem thr_c (t : Int) (w : World) : Calls Try.prog 21 #[.int .i64 t] w fun e w' => e = .returned (.bool (thB t)) ∧ w' = w := by
  by_cases h : 0 ≤ t ∧ t < 4
  · rw [show thB t = true by unfold thB; simp [h]]
    exact thr_y t h.1 h.2 w
  · rw [show thB t = false by unfold thB; simp; omega]
    exact thr_n t (by omega) w
theorem thn_c (th kd ob sl va : Int) (rf : Bool) (f1 f2 tm : Int) (w : World) : Calls Try.prog 23 #[.agg #[.int .i64 th, .int .i64 kd, .int .i64 ob, .int .i64 sl, .int .i64 va, .bool rf, .int .i64 f1, .int .i64 f2, .int .i64 tm]] w fun e w' => e = .returned (.bool (!thB th)) ∧ Below w.heap.size w w' := by
  go_enter Try.func23, Try.ntmps23
  go_wp2_with (first | (go_at_call 21; refine (thr_c _ _).mono ?_; rintro e w' ⟨rfl, rfl⟩))
  go_ret
  exact ⟨rfl, (Below.refl _ _).alloc (Nat.le_refl _) _⟩
theorem tho_c (th kd ob sl va : Int) (rf : Bool) (f1 f2 tm : Int) (w : World) : Calls Try.prog 25 #[.agg #[.int .i64 th, .int .i64 kd, .int .i64 ob, .int .i64 sl, .int .i64 va, .bool rf, .int .i64 f1, .int .i64 f2, .int .i64 tm]] w fun e w' => e = .returned (.int .i64 th) ∧ Below w.heap.size w w' := by
  go_enter Try.func25, Try.ntmps25
  go_wp2
  go_ret
  exact ⟨rfl, (Below.refl _ _).alloc (Nat.le_refl _) _⟩
theorem vol17 (th kd ob sl va : Int) (rf : Bool) (f1 f2 tm : Int) (w : World) : Calls Try.prog 17 #[.agg #[.int .i64 th, .int .i64 kd, .int .i64 ob, .int .i64 sl, .int .i64 va, .bool rf, .int .i64 f1, .int .i64 f2, .int .i64 tm]] w fun e w' => e = .returned (.bool (sl == 1)) ∧ Below w.heap.size w w' := by
  go_enter Try.func17, Try.ntmps17
  go_wp2
  go_ret
  exact ⟨rfl, (Below.refl _ _).alloc (Nat.le_refl _) _⟩
theorem vol18 (th kd ob sl va : Int) (rf : Bool) (f1 f2 tm : Int) (w : World) : Calls Try.prog 18 #[.agg #[.int .i64 th, .int .i64 kd, .int .i64 ob, .int .i64 sl, .int .i64 va, .bool rf, .int .i64 f1, .int .i64 f2, .int .i64 tm]] w fun e w' => e = .returned (.bool (sl == 1)) ∧ Below w.heap.size w w' := by
  go_enter Try.func18, Try.ntmps18
  go_wp2
  go_ret
  exact ⟨rfl, (Below.refl _ _).alloc (Nat.le_refl _) _⟩
theorem vol19 (th kd ob sl va : Int) (rf : Bool) (f1 f2 tm : Int) (w : World) : Calls Try.prog 19 #[.agg #[.int .i64 th, .int .i64 kd, .int .i64 ob, .int .i64 sl, .int .i64 va, .bool rf, .int .i64 f1, .int .i64 f2, .int .i64 tm]] w fun e w' => e = .returned (.bool (sl == 1)) ∧ Below w.heap.size w w' := by
  go_enter Try.func19, Try.ntmps19
  go_wp2
  go_ret
  exact ⟨rfl, (Below.refl _ _).alloc (Nat.le_refl _) _⟩
/-- What is a sync. -/
def syB (kd sl : Int) : Bool := kd == 3 || (kd == 4 || (kd == 5 || (kd == 6 || ((kd == 1 || kd == 2) && sl == 1))))
/-- The law's functions of what is volatile. -/
def VolF (f : Value) : Prop := f = .func (.func 17) #[] #[] ∨ f = .func (.func 18) #[] #[] ∨ f = .func (.func 19) #[] #[]
set_option maxHeartbeats 4000000 in
theorem sync_c {f : Value} (hf : VolF f) (th kd ob sl va : Int) (rf : Bool) (f1 f2 tm : Int) (w : World) : Calls Try.prog 26 #[.agg #[.int .i64 th, .int .i64 kd, .int .i64 ob, .int .i64 sl, .int .i64 va, .bool rf, .int .i64 f1, .int .i64 f2, .int .i64 tm], f] w fun e w' => e = .returned (.bool (syB kd sl)) ∧ Below w.heap.size w w' := by
  cases h3 : kd == 3 with
  | true =>
    rw [show syB kd sl = true by unfold syB; rw [h3]; rfl]
    go_enter Try.func26, Try.ntmps26
    go_wp2
    go_ret
    exact ⟨rfl, (Below.refl _ _).alloc (Nat.le_refl _) _⟩
  | false =>
  cases h4 : kd == 4 with
  | true =>
    rw [show syB kd sl = true by unfold syB; rw [h3, h4]; rfl]
    go_enter Try.func26, Try.ntmps26
    go_wp2
    go_ret
    exact ⟨rfl, (Below.refl _ _).alloc (Nat.le_refl _) _⟩
  | false =>
  cases h5 : kd == 5 with
  | true =>
    rw [show syB kd sl = true by unfold syB; rw [h3, h4, h5]; rfl]
    go_enter Try.func26, Try.ntmps26
    go_wp2
    go_ret
    exact ⟨rfl, (Below.refl _ _).alloc (Nat.le_refl _) _⟩
  | false =>
  cases h6 : kd == 6 with
  | true =>
    rw [show syB kd sl = true by unfold syB; rw [h3, h4, h5, h6]; rfl]
    go_enter Try.func26, Try.ntmps26
    go_wp2
    go_ret
    exact ⟨rfl, (Below.refl _ _).alloc (Nat.le_refl _) _⟩
  | false =>
  have HB0 : Hid (Below w.heap.size w (w.alloc (.cells #[.int .i64 th, .int .i64 kd, .int .i64 ob, .int .i64 sl, .int .i64 va, .bool rf, .int .i64 f1, .int .i64 f2, .int .i64 tm] 44))) := Lib.hid ((Below.refl _ _).alloc (Nat.le_refl _) _)
  cases h1 : kd == 1 with
  | true =>
    rw [show syB kd sl = (sl == 1) by unfold syB; rw [h3, h4, h5, h6, h1]; simp]
    rcases hf with rfl | rfl | rfl
    · go_enter Try.func26, Try.ntmps26
      go_wp2_with (first | (go_at_call 17; refine (vol17 _ _ _ _ _ _ _ _ _ _).mono ?_; rintro e w1 ⟨rfl, hb⟩))
      go_ret
      exact ⟨rfl, HB0.out.trans (hb.mono HB0.out.size)⟩
    · go_enter Try.func26, Try.ntmps26
      go_wp2_with (first | (go_at_call 18; refine (vol18 _ _ _ _ _ _ _ _ _ _).mono ?_; rintro e w1 ⟨rfl, hb⟩))
      go_ret
      exact ⟨rfl, HB0.out.trans (hb.mono HB0.out.size)⟩
    · go_enter Try.func26, Try.ntmps26
      go_wp2_with (first | (go_at_call 19; refine (vol19 _ _ _ _ _ _ _ _ _ _).mono ?_; rintro e w1 ⟨rfl, hb⟩))
      go_ret
      exact ⟨rfl, HB0.out.trans (hb.mono HB0.out.size)⟩
  | false =>
  cases h2 : kd == 2 with
  | true =>
    rw [show syB kd sl = (sl == 1) by unfold syB; rw [h3, h4, h5, h6, h1, h2]; simp]
    rcases hf with rfl | rfl | rfl
    · go_enter Try.func26, Try.ntmps26
      go_wp2_with (first | (go_at_call 17; refine (vol17 _ _ _ _ _ _ _ _ _ _).mono ?_; rintro e w1 ⟨rfl, hb⟩))
      go_ret
      exact ⟨rfl, HB0.out.trans (hb.mono HB0.out.size)⟩
    · go_enter Try.func26, Try.ntmps26
      go_wp2_with (first | (go_at_call 18; refine (vol18 _ _ _ _ _ _ _ _ _ _).mono ?_; rintro e w1 ⟨rfl, hb⟩))
      go_ret
      exact ⟨rfl, HB0.out.trans (hb.mono HB0.out.size)⟩
    · go_enter Try.func26, Try.ntmps26
      go_wp2_with (first | (go_at_call 19; refine (vol19 _ _ _ _ _ _ _ _ _ _).mono ?_; rintro e w1 ⟨rfl, hb⟩))
      go_ret
      exact ⟨rfl, HB0.out.trans (hb.mono HB0.out.size)⟩
  | false =>
    rw [show syB kd sl = false by unfold syB; rw [h3, h4, h5, h6, h1, h2]; simp]
    go_enter Try.func26, Try.ntmps26
    go_wp2
    go_ret
    exact ⟨rfl, HB0.out⟩
set_option maxRecDepth 100000 in
theorem idx_c (a : Option Addr) (n c : Nat) (X : Nat → Ev) (w : World) (h : EvS w a n X) (hn : n ≤ 150) : Calls Try.prog 30 #[.slice a n c, .func (.func 23) #[] #[]] w fun r w' => ∃ q : Int, r = .returned (.int .i64 q) ∧ (0 ≤ q ↔ ∃ i, i < n ∧ thB (X i).th = false) ∧ Below w.heap.size w w' := by
  have HH := Lib.hid h
  clear h
  go_enter Try.func30, Try.ntmps30
  go_wp2
  go_loopw [8] (fun s8 wr => ∃ j : Nat, s8 = .int .i64 j ∧ j ≤ n ∧ Hid (∀ i, i < j → thB (X i).th = true) ∧ Hid (Below w.heap.size w wr)) (fun s8 _ => n - iof s8)
  case atStart => exact ⟨0, rfl, by omega, Lib.hid fun i hi => absurd hi (Nat.not_lt_zero _), Lib.hid (Below.refl _ _)⟩
  case round =>
    obtain ⟨j, rfl, hj, HA, HB⟩ := hrel
    by_cases hlt : j < n
    · obtain ⟨b, o, rfl, hbl, hc⟩ : ∃ b o, a = some ⟨b, o, none⟩ ∧ b < wr.heap.size ∧ ∀ i, i < n → EvAt wr b (o + i * 9) (X i) := by
        rcases HH.out.past HB.out with h | h
        · omega
        · exact h
      have hc := hc j hlt
      have HTH : Hid (∃ t, (X j).th = t) := Lib.hid ⟨_, rfl⟩
      have HX : Hid ((X j).th = (X j).th) := Lib.hid rfl
      have c0 := hc.c0
      have c1 := hc.c1
      have c2 := hc.c2
      have c3 := hc.c3
      have c4 := hc.c4
      have c5 := hc.c5
      have c6 := hc.c6
      have c7 := hc.c7
      have c8 := hc.c8
      have g1 : (j : Int) < n := by omega
      have g0 : (0 : Int) ≤ j := by omega
      have HLT := Lib.hid hlt
      clear hc
      cases hb : thB (X j).th with
      | false =>
        have HBB := Lib.hid hb
        clear hb
        go_wp2_with (first | (go_at_call 23; refine (thn_c _ _ _ _ _ _ _ _ _ _).mono ?_; rintro e w1 ⟨rfl, hb1⟩; rw [HBB.out]; clear c0 c1 c2 c3 c4 c5 c6 c7 c8))
        go_ret
        exact ⟨_, rfl, ⟨fun _ => ⟨j, HLT.out, HBB.out⟩, fun _ => by omega⟩, HB.out.trans (hb1.mono HB.out.size)⟩
      | true =>
        have HBB := Lib.hid hb
        clear hb
        have gw : IntKind.i64.wrap ((j : Int) + 1) = ((j + 1 : Nat) : Int) := by rw [IntKind.wrap_i64]; omega
        go_wp2_with (first | (go_at_call 23; refine (thn_c _ _ _ _ _ _ _ _ _ _).mono ?_; rintro e w1 ⟨rfl, hb1⟩; rw [HBB.out]; clear c0 c1 c2 c3 c4 c5 c6 c7 c8))
        exact ⟨⟨j + 1, by simp, by omega, Lib.hid (fun i hi => by
          rcases Nat.lt_or_ge i j with h | h
          · exact HA.out i h
          · have : i = j := by omega
            rw [this]; exact HBB.out), Lib.hid (HB.out.trans (hb1.mono HB.out.size))⟩, by simp [iof]; omega⟩
    · have d1 : decide (j < n) = false := decide_eq_false hlt
      have HJ : Hid (j = n) := Lib.hid (by omega)
      clear hlt
      go_wp2
      go_ret
      exact ⟨_, rfl, ⟨fun h => absurd h (by decide), fun ⟨i, h1, h2⟩ => by rw [HA.out i (by rw [HJ.out]; exact h1)] at h2; cases h2⟩, HB.out⟩
theorem has_c (a : Option Addr) (n c : Nat) (X : Nat → Ev) (w : World) (h : EvS w a n X) (hn : n ≤ 150) : Calls Try.prog 22 #[.slice a n c, .func (.func 23) #[] #[]] w fun r w' => ∃ q : Bool, r = .returned (.bool q) ∧ (q = true ↔ ∃ i, i < n ∧ thB (X i).th = false) ∧ Below w.heap.size w w' := by
  go_enter Try.func22, Try.ntmps22
  go_wp2_with (first | (go_at_call 30; refine (idx_c _ _ _ X _ h hn).mono ?_; rintro e w1 ⟨q, rfl, hq, hb⟩; have HQ := Lib.hid hq; clear hq))
  go_ret
  exact ⟨_, rfl, by rw [← HQ.out]; simp, hb⟩
end Go.Proofs.Ytnmgafaebggeiaa.St
