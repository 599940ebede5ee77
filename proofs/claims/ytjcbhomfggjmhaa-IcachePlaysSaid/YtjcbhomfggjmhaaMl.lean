import Derived.Test.YtjcbhomfggjmhaaMk
namespace Go.Proofs.Ytjcbhomfggjmhaa.Mm
open Go.ChangeShapes Go.WideShapes Go.ChangeAt Go.RowKit
set_option linter.unusedVariables false
set_option maxRecDepth 100000 in
theorem insertion_0 (a : Option Addr) (cp : Nat) (w : World) :
    Calls Try.prog 69 #[.slice a 0 cp, .int .i64 0, .int .i64 0, .func (.func 23) #[] #[]] w fun e w' => e = .returned (.tuple #[]) ∧ w = w' := by
  go_enter Try.func69, Try.ntmps69
  go_wp2
  go_loopw [8, 9] (fun i _ wr => i = .int .i64 1 ∧ wr = w) (fun _ _ _ => 0)
  case atStart => exact ⟨rfl, rfl⟩
  case round =>
    obtain ⟨rfl, rfl⟩ := hrel
    go_wp2
    refine bodyPost_end (v := .tuple #[]) (by simp [results, Try.results69, go_sem]) rfl ⟨rfl, rfl⟩
set_option maxRecDepth 100000 in
theorem stable_0 (a : Option Addr) (cp : Nat) (w : World) :
    Calls Try.prog 58 #[.slice a 0 cp, .int .i64 0, .func (.func 23) #[] #[]] w fun e w' => e = .returned (.tuple #[]) ∧ w = w' := by
  go_enter Try.func58, Try.ntmps58
  go_wp2
  go_loopw [7, 8] (fun a b wr => a = .int .i64 0 ∧ b = .int .i64 20 ∧ wr = w) (fun _ _ _ => 0)
  case atStart => exact ⟨rfl, rfl, rfl⟩
  case round =>
    obtain ⟨rfl, rfl, rfl⟩ := hrel
    go_wp2_with (go_at_call 69; refine (insertion_0 a cp _).mono ?_; rintro e w1 ⟨rfl, rfl⟩)
    go_loopw [6] (fun b wi => b = .int .i64 20 ∧ wi = wr) (fun _ _ => 0)
    case atStart => exact ⟨rfl, rfl⟩
    case round =>
      obtain ⟨rfl, rfl⟩ := hrel
      go_wp2
      refine bodyPost_end (v := .tuple #[]) (by simp [results, Try.results58, go_sem]) rfl ⟨rfl, rfl⟩
set_option maxRecDepth 100000 in
theorem sort_0 (a : Option Addr) (cp : Nat) (w : World) :
    Calls Try.prog 22 #[.slice a 0 cp, .func (.func 23) #[] #[]] w fun e w' => e = .returned (.tuple #[]) ∧ w = w' := by
  go_enter Try.func22, Try.ntmps22
  go_wp2_with (go_at_call 58; refine (stable_0 a cp _).mono ?_; rintro e w1 ⟨rfl, rfl⟩)
  refine bodyPost_end (v := .tuple #[]) (by simp [results, Try.results22, go_sem]) rfl ⟨rfl, rfl⟩
theorem isRight_y (a s : Nat) (p q : Bool) (w : World) (h1 : a % 8 = 0) (h2 : s % 8 = 0) (h3 : 0 < s) (h4 : s ≤ 16777216) (h5 : a + s ≤ 281474976710656) :
    Calls Try.prog 24 #[.agg #[.int .u64 a, .int .u64 s, .bool p, .bool q]] w fun e w' => e = .returned (.bool true) ∧ Below w.heap.size w w' := by
  have i1 : (a : Int) % 8 = 0 := by omega
  have i2 : (s : Int) % 8 = 0 := by omega
  have i3 : decide ((0 : Nat) < s) = true := decide_eq_true h3
  have i6 : decide ((0 : Int) < (s : Int)) = true := decide_eq_true (by omega)
  have i4 : decide ((s : Int) ≤ 16777216) = true := decide_eq_true (by omega)
  have i7 : decide (s ≤ 16777216) = true := decide_eq_true (by omega)
  have i5 : decide ((a : Int) ≤ 281474976710656 - (s : Int)) = true := decide_eq_true (by omega)
  go_enter Try.func24, Try.ntmps24
  go_wp2
  go_ret
  exact ⟨rfl, (Below.refl _ _).alloc (Nat.le_refl _) _⟩
def rightOne (a s : Nat) : Prop := a % 8 = 0 ∧ s % 8 = 0 ∧ 0 < s ∧ s ≤ 16777216 ∧ a + s ≤ 281474976710656
theorem isRight_n (a s : Nat) (p q : Bool) (w : World) (h : ¬ rightOne a s) :
    Calls Try.prog 24 #[.agg #[.int .u64 a, .int .u64 s, .bool p, .bool q]] w fun e w' => e = .returned (.bool false) ∧ Below w.heap.size w w' := by
  have fin : Below w.heap.size w (w.alloc (.cells #[.int .u64 a, .int .u64 s, .bool p, .bool q] 58)) := (Below.refl _ _).alloc (Nat.le_refl _) _
  have HF := Lib.hid fin
  clear fin
  by_cases h1 : a % 8 = 0
  · have i1 : (a : Int) % 8 = 0 := by omega
    by_cases h2 : s % 8 = 0
    · have i2 : (s : Int) % 8 = 0 := by omega
      by_cases h3 : 0 < s
      · have i3 : decide ((0 : Nat) < s) = true := decide_eq_true h3
        have i6 : decide ((0 : Int) < (s : Int)) = true := decide_eq_true (by omega)
        by_cases h4 : s ≤ 16777216
        · have i4 : decide ((s : Int) ≤ 16777216) = true := decide_eq_true (by omega)
          have i7 : decide (s ≤ 16777216) = true := decide_eq_true (by omega)
          have h5 : 281474976710656 < a + s := by unfold rightOne at h; omega
          have i5 : decide ((a : Int) ≤ 281474976710656 - (s : Int)) = false := decide_eq_false (by omega)
          clear h h1 h2
          go_enter Try.func24, Try.ntmps24
          go_wp2
          go_ret
          exact ⟨rfl, HF.out⟩
        · have i4 : decide ((s : Int) ≤ 16777216) = false := decide_eq_false (by omega)
          have i7 : decide (s ≤ 16777216) = false := decide_eq_false (by omega)
          clear h h1 h2
          go_enter Try.func24, Try.ntmps24
          go_wp2
          go_ret
          exact ⟨rfl, HF.out⟩
      · have i3 : decide ((0 : Nat) < s) = false := decide_eq_false h3
        have i6 : decide ((0 : Int) < (s : Int)) = false := decide_eq_false (by omega)
        clear h h1 h2
        go_enter Try.func24, Try.ntmps24
        go_wp2
        go_ret
        exact ⟨rfl, HF.out⟩
    · have i2 : ¬ (s : Int) % 8 = 0 := by omega
      have i8 : ((s : Int) % 8 == 0) = false := by simp; omega
      clear h h1
      go_enter Try.func24, Try.ntmps24
      go_wp2
      go_ret
      exact ⟨rfl, HF.out⟩
  · have i1 : ¬ (a : Int) % 8 = 0 := by omega
    have i8 : ((a : Int) % 8 == 0) = false := by simp; omega
    clear h
    go_enter Try.func24, Try.ntmps24
    go_wp2
    go_ret
    exact ⟨rfl, HF.out⟩
/-- A slice of these regions, wherever it lies. -/
def RgSrc (w : World) (u : Value) (n : Nat) (A S : Nat → Nat) (W X : Nat → Bool) : Prop := ∃ sp cap, u = .slice sp n cap ∧ n ≤ cap ∧ (0 < n → ∃ ad, sp = some ad ∧ ad.block < w.heap.size ∧ ∀ q, q < n * 4 → w.cell? (ad.add q) = some (regCell A S W X q))
theorem RgSrc.past {w w' : World} {u : Value} {n : Nat} {A S : Nat → Nat} {W X : Nat → Bool} (h : RgSrc w u n A S W X) (hb : Below w.heap.size w w') : RgSrc w' u n A S W X := by
  obtain ⟨sp, cap, e, hc, hp⟩ := h
  refine ⟨sp, cap, e, hc, fun h0 => ?_⟩
  obtain ⟨ad, e2, hlt, hh⟩ := hp h0
  exact ⟨ad, e2, Nat.lt_of_lt_of_le hlt hb.size, fun j hj => (hb.cell (p := ad.add j) (by rw [add_block]; exact hlt)).trans (hh j hj)⟩
set_option maxRecDepth 100000 in
set_option maxHeartbeats 4000000 in
theorem clone_r (w : World) (u : Value) (n : Nat) (A S : Nat → Nat) (W X : Nat → Bool) (hb : RgSrc w u n A S W X) (hn : n ≤ 16) :
    Calls Try.prog 21 #[u] w fun e w' => (∃ v', e = .returned v' ∧ w'.ownsRow w.heap.size 58 4 v' n (regCells A S W X n)) ∧ Below w.heap.size w w' := by
  have HB0 : Hid (RgSrc (w.alloc (.cells #[] 58)) u n A S W X) := Lib.hid (hb.past ((Below.refl _ _).alloc (Nat.le_refl _) _))
  obtain ⟨sp, cap, rfl, hcap, hpos⟩ := hb
  cases sp with
  | none =>
    have h0 : n = 0 := by
      rcases Nat.eq_zero_or_pos n with h | h
      · exact h
      · obtain ⟨ad, h, _⟩ := hpos h; cases h
    subst h0
    have hnil := fun W => Lib.run_eql_slice_nil (P := Try.prog) W 29 58 none 0 cap 0 0 Try.underlying29
    go_enter Try.func21, Try.ntmps21
    go_wp2
    go_ret
    exact ⟨⟨_, rfl, ⟨rfl, .inl ⟨rfl, rfl⟩⟩⟩, Below.refl _ _⟩
  | some ad =>
    have HO : Hid ((w.alloc (.cells #[] 58)).ownsRow w.heap.size 58 4 (.slice (some ⟨w.heap.size, 0, none⟩) 0 0) 0 []) := Lib.hid (World.ownsRow_made w #[] 0 (Nat.le_refl _) (by unfold maxLen; omega) rfl)
    have HN : Hid (∀ j u, (regCells A S W X n)[j]? = some u → (w.alloc (.cells #[] 58)).cell? (ad.add j) = some u) := Lib.hid (fun j u hj => by
      obtain ⟨h1, rfl⟩ := regCells_get A S W X n j u hj
      obtain ⟨sp', cap', e1, _, h2⟩ := HB0.out
      obtain ⟨ad', e2, _, h3⟩ := h2 (by omega)
      injection e1 with e1
      rw [e2] at e1
      injection e1 with e1
      subst e1
      exact h3 j h1)
    have H1 : Hid (∀ u ∈ regCells A S W X n, u.oneCell' = true) := Lib.hid (regCell_one A S W X n)
    have HL : Hid ((regCells A S W X n).length = n * 4) := Lib.hid (by simp [regCells])
    clear hpos HB0
    obtain ⟨i0, hi, hz0, hz1, hz2⟩ := info_parts info113z
    have hnil := fun W => Lib.run_eql_slice_nil (P := Try.prog) W 29 58 (some ad) n cap 0 0 Try.underlying29
    go_enter Try.func21, Try.ntmps21
    go_wp2_with (at_builtin; refine wpList_append_own _ rfl _ _ 29 rfl w.heap.size 58 i0 _ 4 24 Try.underlying29 hi hz0 hz1 hz2 rfl (by decide) _ 0 [] rfl HO.out ad n cap (regCells A S W X n) rfl HL.out HN.out H1.out (by unfold maxLen; omega) (by omega) (by simp) ?_)
    intro v' w1 hown1 hgrow hne
    have HB : Hid (Below w.heap.size w w1) := Lib.hid (((Below.refl _ _).alloc (Nat.le_refl _) _).trans ⟨hgrow.os, hgrow.tape, hgrow.output, hgrow.size, fun x hx => hgrow.block x (by simp; omega) (by simp [Value.ownBlock]; omega)⟩)
    have HO2 : Hid (w1.ownsRow w.heap.size 58 4 v' n (regCells A S W X n)) := Lib.hid (by simpa using hown1)
    clear hown1 hgrow hne
    go_wp2
    go_ret
    exact ⟨⟨_, rfl, HO2.out⟩, HB.out⟩
end Go.Proofs.Ytjcbhomfggjmhaa.Mm
