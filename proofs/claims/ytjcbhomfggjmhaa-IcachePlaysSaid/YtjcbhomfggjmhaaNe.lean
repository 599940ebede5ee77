import Derived.Test.YtjcbhomfggjmhaaNc
import Derived.Test.YtjcbhomfggjmhaaMw
import Derived.Test.YtjcbhomfggjmhaaNa
namespace Go.Proofs.Ytjcbhomfggjmhaa.Mm
open Go.ChangeShapes Go.WideShapes Go.ChangeAt Go.RowKit
set_option linter.unusedVariables false
theorem rnew_big (w : World) (u : Value) (n : Nat) (A0 S0 : Nat → Nat) (W0 X0 : Nat → Bool) (hb : RgSrc w u n A0 S0 W0 X0) (hn : 16 < n) (hn2 : n ≤ 9223372036854775807) :
    Calls Try.prog 7 #[u] w fun e w' => e = .returned (.tuple #[.pointer none, .int .i64 1]) ∧ w' = w := by
  have d1 : decide ((16 : Int) < (n : Int)) = true := decide_eq_true (by omega)
  obtain ⟨sp, cap, rfl, hcap, _⟩ := hb
  go_enter Try.func7, Try.ntmps7
  go_wp2
  refine bodyPost_ret (v := .tuple #[.pointer none, .int .i64 1]) (by simp [results, Try.results7, go_sem]) rfl ⟨rfl, rfl⟩
/-- New of both. -/
theorem bo_new (w : World) (u : Value) (n : Nat) (A0 S0 : Nat → Nat) (W0 X0 : Nat → Bool) (hb : RgSrc w u n A0 S0 W0 X0) (hn : n ≤ 9223372036854775807) (hA : ∀ i, A0 i < 18446744073709551616) (hS : ∀ i, S0 i < 18446744073709551616) :
    Calls Try.prog 5 #[u] w fun e w1 => Below w.heap.size w w1 ∧
      ((∃ p1, e = .returned (.tuple #[.pointer (some ⟨p1, 0, none⟩), .int .i64 0]) ∧ Calls Try.prog 7 #[u] w1 fun e2 w2 => Below w1.heap.size w1 w2 ∧ ∃ p2 M, e2 = .returned (.tuple #[.pointer (some ⟨p2, 0, none⟩), .int .i64 0]) ∧ Bo w2 (fun k => w.heap.size ≤ k ∧ k < w1.heap.size) (fun k => w1.heap.size ≤ k ∧ k < w2.heap.size) p1 p2 M) ∨
       (e = .returned (.tuple #[.pointer none, .int .i64 1]) ∧ Calls Try.prog 7 #[u] w1 fun e2 w2 => Below w1.heap.size w1 w2 ∧ e2 = .returned (.tuple #[.pointer none, .int .i64 1]))) := by
  by_cases h16 : 16 < n
  · refine (new_big w u n A0 S0 W0 X0 hb h16 hn).mono ?_
    rintro e w1 ⟨rfl, rfl⟩
    refine ⟨Below.refl _ _, .inr ⟨rfl, (rnew_big w1 u n A0 S0 W0 X0 hb h16 hn).mono ?_⟩⟩
    rintro e w2 ⟨rfl, rfl⟩
    exact ⟨Below.refl _ _, rfl⟩
  · refine (new_c w u n A0 S0 W0 X0 hb (by omega)).mono ?_
    rintro e w1 ⟨hb1, A, S, W, X, hD, hs, h⟩
    refine ⟨hb1, ?_⟩
    have hc := rnew_c w1 u n A0 S0 W0 X0 (hb.past hb1) hA hS (by omega)
    rcases h with ⟨hR, p1, v, B, C, rfl, hm⟩ | ⟨hR, rfl⟩
    · refine .inl ⟨p1, rfl, hc.mono ?_⟩
      rintro e w2 ⟨hb2, ⟨hR2, p2, A', S', W', X', v2, B2, C2, rfl, hD2, hU2, hm2⟩ | ⟨hR2, _⟩⟩
      · have hq := Dat.uniq hD2 hD hU2 hR.strict
        refine ⟨hb2, p2, zMe n A S W X, rfl, ⟨v, B, C, hm.past hb2⟩, ⟨v2, B2, C2, hm2.alike ⟨rfl, fun k hk => (hq k hk).1, fun k hk => (hq k hk).2.1, fun k hk => (hq k hk).2.2.1, fun k hk => (hq k hk).2.2.2, fun _ _ _ _ => rfl⟩ (fun _ _ => by show 0 < 256; omega)⟩, fun k hk hk2 => by omega⟩
      · exact absurd (RightR.toD hD hR) hR2
    · refine .inr ⟨rfl, hc.mono ?_⟩
      rintro e w2 ⟨hb2, ⟨hR2, _⟩ | ⟨hR2, rfl⟩⟩
      · exact absurd (RightD.toR hD hs hR2) hR
      · exact ⟨hb2, rfl⟩
/-- Write of one memory, at any place. -/
theorem write_some {w : World} {F : Nat → Prop} {p : Nat} {M : Me} {v : Value} {B C : Nat → Nat} (h : MeC 64 67 w F p M v B C) (x u : Nat) (hx : x < 18446744073709551616) (hu : u < 18446744073709551616) :
    ∃ (r : Int) (M' : Me), Calls Try.prog 15 #[.pointer (some ⟨p, 0, none⟩), .int .u64 x, .int .u64 u] w fun e w1 => e = .returned (.int .i64 r) ∧ Kp F w w1 ∧ MeC 64 67 w1 F p M' v B C := by
  by_cases hf : ∃ k o, Hs M x 0 k o
  · obtain ⟨k, o, hs⟩ := hf
    by_cases h8 : x % 8 = 0
    · cases hW : M.W k with
      | true => exact ⟨0, _, (write_y h (hs.eight h.ok h8) h8 hW hu).mono fun e w1 ⟨he, hm, hk⟩ => ⟨he, hk, hm⟩⟩
      | false => exact ⟨8, M, (write_m h hs (.inr hW)).mono fun e w1 ⟨he, q, hq⟩ => by subst hq; have hb := below_drewN (Below.refl w.heap.size w) q; exact ⟨he, Kp.of_below hb, h.past hb⟩⟩
    · exact ⟨8, M, (write_m h hs (.inl h8)).mono fun e w1 ⟨he, q, hq⟩ => by subst hq; have hb := below_drewN (Below.refl w.heap.size w) q; exact ⟨he, Kp.of_below hb, h.past hb⟩⟩
  · exact ⟨8, M, (write_n h hx (fun k o hs => hf ⟨k, o, hs⟩)).mono fun e w1 ⟨he, q, hq⟩ => by subst hq; have hb := below_drewN (Below.refl w.heap.size w) q; exact ⟨he, Kp.of_below hb, h.past hb⟩⟩
theorem Bo.kp {w w' : World} {F F1 F2 : Nat → Prop} {p1 p2 : Nat} {M : Me} (h : Bo w F1 F2 p1 p2 M) (hk : Kp F w w') (h1 : ∀ k, F1 k → ¬ F k) (h2 : ∀ k, F2 k → ¬ F k) : Bo w' F1 F2 p1 p2 M := by
  obtain ⟨⟨v, B, C, a⟩, ⟨v2, B2, C2, b⟩, c⟩ := h
  exact ⟨⟨v, B, C, a.kp hk h1⟩, ⟨v2, B2, C2, b.kp hk h2⟩, c⟩
/-- The regions of both. -/
theorem bo_regions {w : World} {F1 F2 : Nat → Prop} {p1 p2 : Nat} {M : Me} (h : Bo w F1 F2 p1 p2 M) :
    Calls Try.prog 60 #[.pointer (some ⟨p1, 0, none⟩)] w fun e w1 => (∃ v', e = .returned v' ∧ w1.ownsRow w.heap.size 58 4 v' M.n (rgL M M.n)) ∧ Below w.heap.size w w1 := by
  obtain ⟨⟨v, B, C, a⟩, _, _⟩ := h
  exact regions_c a
theorem rgL_get (M : Me) (j i : Nat) (hi : i < 4) : ∀ n, j < n → (rgL M n)[j * 4 + i]? = (rgC M j)[i]? := by
  intro n
  induction n with
  | zero => intro h; omega
  | succ n ih =>
    intro h
    unfold rgL
    rcases Nat.lt_or_ge j n with hj | hj
    · rw [List.getElem?_append_left (by rw [rgL_len]; omega)]
      exact ih hj
    · obtain rfl : j = n := by omega
      rw [List.getElem?_append_right (by rw [rgL_len]; omega), rgL_len, Nat.add_sub_cancel_left]
end Go.Proofs.Ytjcbhomfggjmhaa.Mm
