import Derived.Test.YtnbpgoacooddjaaMu
import Derived.Test.YtnbpgoacooddjaaMv
namespace Go.Proofs.Ytnbpgoacooddjaa.Mm
open Go.ChangeShapes Go.WideShapes Go.ChangeAt Go.RowKit
set_option linter.unusedVariables false
/-- The same memory, as far as it goes. -/
structure Alike (M N : Me) : Prop where
  n : M.n = N.n
  A : ∀ k, k < M.n → M.A k = N.A k
  S : ∀ k, k < M.n → M.S k = N.S k
  W : ∀ k, k < M.n → M.W k = N.W k
  X : ∀ k, k < M.n → M.X k = N.X k
  y : ∀ k o, k < M.n → o < M.S k → M.y k o = N.y k o
theorem byL_congr (y z : Nat → Nat) (s : Nat) (h : ∀ o, o < s → y o = z o) : byL y s = byL z s := by
  unfold byL
  apply List.map_congr_left
  intro o ho
  rw [h o (List.mem_range.1 ho)]
theorem MeC.alike {tm ta : TypeId} {w : World} {FP : Nat → Prop} {p : Nat} {M N : Me} {v : Value} {B C : Nat → Nat} (h : MeC tm ta w FP p M v B C) (a : Alike M N) (hy : ∀ k o, N.y k o < 256) : MeC tm ta w FP p N v B C := by
  have hn := a.n
  refine ⟨h.row, ?_, fun k hk => ?_, fun i k hi hk => h.inj i k (by omega) (by omega), h.fp, h.fv, fun k hk => h.fb k (by omega), h.fl, ?_⟩
  · have e : arL N B C N.n = arL M B C M.n := by
      rw [← hn]
      refine arL_congr _ _ _ _ _ _ _ fun j hj => ?_
      unfold arC
      rw [a.A j hj, a.S j hj, a.W j hj, a.X j hj]
    rw [e, ← hn]
    exact h.ars
  · have hk2 : k < M.n := by omega
    have := h.byt k hk2
    rw [byL_congr _ (N.y k) _ (fun o ho => a.y k o hk2 ho), a.S k hk2] at this
    exact this
  · refine ⟨by rw [← hn]; exact h.ok.n16, fun j hj => ?_, fun i j hij hj => ?_, hy⟩
    · have hj2 : j < M.n := by omega
      rw [← a.A j hj2, ← a.S j hj2]
      exact h.ok.sz j hj2
    · have hj2 : j < M.n := by omega
      rw [← a.A i (by omega), ← a.S i (by omega), ← a.A j hj2]
      exact h.ok.ord i j hij hj2
theorem Hs.eight {M : Me} (h : MeOk M) {x k o : Nat} (a : Hs M x 0 k o) (h8 : x % 8 = 0) : Hs M x 8 k o := by
  obtain ⟨a1, a2, a3, _⟩ := a
  obtain ⟨_, _, _, b4, b5⟩ := h.sz k a1
  exact ⟨a1, a2, a3, by omega⟩
theorem Hs.four {M : Me} (h : MeOk M) {x k o : Nat} (a : Hs M x 0 k o) (h4 : x % 4 = 0) : Hs M x 4 k o := by
  obtain ⟨a1, a2, a3, _⟩ := a
  obtain ⟨_, _, _, b4, b5⟩ := h.sz k a1
  exact ⟨a1, a2, a3, by omega⟩
theorem Hs.one {M : Me} {x k o : Nat} (a : Hs M x 0 k o) : Hs M x 1 k o := ⟨a.1, a.2.1, a.2.2.1, by have := a.2.2.1; omega⟩
theorem Hs.less {M : Me} {x m k o : Nat} (a : Hs M x m k o) : Hs M x 0 k o := ⟨a.1, a.2.1, a.2.2.1, by have := a.2.2.1; omega⟩
/-- Two memories side by side: the program's and the document's, the same in all that they hold. -/
structure Bo (w : World) (F1 F2 : Nat → Prop) (p1 p2 : Nat) (M : Me) : Prop where
  pr : ∃ v B C, MeC 184 187 w F1 p1 M v B C
  dc : ∃ v B C, MeC 213 215 w F2 p2 M v B C
  ap : ∀ k, F1 k → ¬ F2 k
theorem Bo.past {w w' : World} {F1 F2 : Nat → Prop} {p1 p2 : Nat} {M : Me} (h : Bo w F1 F2 p1 p2 M) (hb : Below w.heap.size w w') : Bo w' F1 F2 p1 p2 M := by
  obtain ⟨⟨v, B, C, h1⟩, ⟨v2, B2, C2, h2⟩, h3⟩ := h
  exact ⟨⟨v, B, C, h1.past hb⟩, ⟨v2, B2, C2, h2.past hb⟩, h3⟩
theorem MeC.kp {tm ta : TypeId} {w w' : World} {FP F : Nat → Prop} {p : Nat} {M : Me} {v : Value} {B C : Nat → Nat} (h : MeC tm ta w FP p M v B C) (hk : Kp F w w') (ha : ∀ k, FP k → ¬ F k) : MeC tm ta w' FP p M v B C :=
  h.kept hk.size fun k hf => hk.block k (h.fl k hf) (ha k hf)
theorem Bo.ok {w : World} {F1 F2 : Nat → Prop} {p1 p2 : Nat} {M : Me} (h : Bo w F1 F2 p1 p2 M) : MeOk M := by
  obtain ⟨⟨v, B, C, h1⟩, _, _⟩ := h
  exact h1.ok
/-- Write on both, one after the other. -/
theorem bo_write (w : World) (F1 F2 : Nat → Prop) (p1 p2 : Nat) (M : Me) (h : Bo w F1 F2 p1 p2 M) (x u : Nat) (hx : x < 18446744073709551616) (hu : u < 18446744073709551616) :
    ∃ (r : Int) (M' : Me), Calls Try.prog 51 #[.pointer (some ⟨p1, 0, none⟩), .int .u64 x, .int .u64 u] w fun e w1 => e = .returned (.int .i64 r) ∧ Kp F1 w w1 ∧ (∃ v B C, MeC 184 187 w1 F1 p1 M' v B C) ∧
      Calls Try.prog 63 #[.pointer (some ⟨p2, 0, none⟩), .int .u64 x, .int .u64 u] w1 fun e w2 => e = .returned (.int .i64 r) ∧ Bo w2 F1 F2 p1 p2 M' ∧ Kp (fun k => F1 k ∨ F2 k) w w2 := by
  obtain ⟨⟨v, B, C, h1⟩, ⟨v2, B2, C2, h2⟩, h3⟩ := h
  have hok := h1.ok
  have refuse : ∀ {w1 : World}, Below w.heap.size w w1 → (Calls Try.prog 63 #[.pointer (some ⟨p2, 0, none⟩), .int .u64 x, .int .u64 u] w1 fun e w2 => e = .returned (.int .i64 8) ∧ Below w1.heap.size w1 w2) → Calls Try.prog 63 #[.pointer (some ⟨p2, 0, none⟩), .int .u64 x, .int .u64 u] w1 fun e w2 => e = .returned (.int .i64 8) ∧ Bo w2 F1 F2 p1 p2 M ∧ Kp (fun k => F1 k ∨ F2 k) w w2 := fun {w1} hb hc => hc.mono fun e w2 ⟨he, hb2⟩ =>
    have hbb := hb.trans (hb2.mono hb.size)
    ⟨he, ⟨⟨v, B, C, h1.past hbb⟩, ⟨v2, B2, C2, h2.past hbb⟩, h3⟩, Kp.of_below hbb⟩
  by_cases hf : ∃ k o, Hs M x 0 k o
  · obtain ⟨k, o, hs⟩ := hf
    by_cases h8 : x % 8 = 0
    · have hs8 := hs.eight hok h8
      cases hW : M.W k with
      | true =>
        refine ⟨0, M.ld k o (byts u 8), (write_y h1 hs8 h8 hW hu).mono fun e w1 ⟨he, hm, hk⟩ => ⟨he, hk, ⟨v, B, C, hm⟩, ?_⟩⟩
        have h2' := h2.kp hk (fun q hq hq1 => h3 q hq1 hq)
        exact (rwrite_y h2' hs8 h8 hW hu).mono fun e w2 ⟨he2, hm2, hk2⟩ => ⟨he2, ⟨⟨v, B, C, hm.kp hk2 h3⟩, ⟨v2, B2, C2, hm2⟩, h3⟩, (hk.mono fun q hq => .inl hq).trans (hk2.mono (FP' := fun k => F1 k ∨ F2 k) fun q hq => .inr hq) fun q hq => .inl hq⟩
      | false =>
        refine ⟨8, M, (write_m h1 hs (.inr hW)).mono fun e w1 ⟨he, q, hq⟩ => ?_⟩
        subst hq
        have hb := below_drewN (Below.refl w.heap.size w) q
        exact ⟨he, Kp.of_below hb, ⟨v, B, C, h1.past hb⟩, refuse hb (rwrite_x (h2.past hb) hs8 h8 hW)⟩
    · refine ⟨8, M, (write_m h1 hs (.inl h8)).mono fun e w1 ⟨he, q, hq⟩ => ?_⟩
      subst hq
      have hb := below_drewN (Below.refl w.heap.size w) q
      exact ⟨he, Kp.of_below hb, ⟨v, B, C, h1.past hb⟩, refuse hb (rwrite_m (h2.past hb) hx h8)⟩
  · refine ⟨8, M, (write_n h1 hx (fun k o hs => hf ⟨k, o, hs⟩)).mono fun e w1 ⟨he, q, hq⟩ => ?_⟩
    subst hq
    have hb := below_drewN (Below.refl w.heap.size w) q
    exact ⟨he, Kp.of_below hb, ⟨v, B, C, h1.past hb⟩, refuse hb (rwrite_n (h2.past hb) hx (fun k o hs => hf ⟨k, o, hs.less⟩))⟩
end Go.Proofs.Ytnbpgoacooddjaa.Mm
