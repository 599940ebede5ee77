import Derived.Test.YtjcbhomfggjmhaaMt
import Derived.Test.YtjcbhomfggjmhaaMn
import Derived.Laws.BytesString
namespace Go.Proofs.Ytjcbhomfggjmhaa.Mm
open Go.ChangeShapes Go.WideShapes Go.ChangeAt Go.RowKit
set_option linter.unusedVariables false
section
variable {w : World} {FP : Nat → Prop} {p : Nat} {M : Me} {v : Value} {B C : Nat → Nat}
end
end Go.Proofs.Ytjcbhomfggjmhaa.Mm
namespace Go.Proofs.Ytjcbhomfggjmhaa.Mm
set_option linter.unusedVariables false
/-! ### Rows of regions in another order -/
theorem inj_surj : ∀ (n : Nat) (π : Nat → Nat), (∀ x, x < n → π x < n) → (∀ x y, x < n → y < n → π x = π y → x = y) → ∀ y, y < n → ∃ x, x < n ∧ π x = y
  | 0, _, _, _, y, hy => by omega
  | n + 1, π, h1, h2, y, hy => by
    have hz := h1 n (by omega)
    have ih := inj_surj n (fun x => if π x = n then π n else π x) (fun x hx => by
      have := h1 x (by omega)
      show (if π x = n then π n else π x) < n
      split
      · rename_i e
        have : π n ≠ n := fun e2 => by have := h2 x n (by omega) (by omega) (by omega); omega
        omega
      · omega) (fun x y hx hy e => by
      have e : (if π x = n then π n else π x) = (if π y = n then π n else π y) := e
      split at e
      · rename_i ex
        split at e
        · rename_i ey
          exact h2 x y (by omega) (by omega) (by omega)
        · have := h2 n y (by omega) (by omega) e; omega
      · split at e
        · have := h2 x n (by omega) (by omega) e; omega
        · exact h2 x y (by omega) (by omega) e)
    by_cases e1 : y = π n
    · exact ⟨n, by omega, e1.symm⟩
    · by_cases e2 : y = n
      · obtain ⟨x, hx, e⟩ := ih (π n) (by omega)
        have e : (if π x = n then π n else π x) = π n := e
        split at e
        · rename_i ex
          exact ⟨x, by omega, by omega⟩
        · have := h2 x n (by omega) (by omega) e; omega
      · obtain ⟨x, hx, e⟩ := ih y (by omega)
        have e : (if π x = n then π n else π x) = y := e
        split at e
        · omega
        · exact ⟨x, by omega, e⟩
/-- What the document's New asks of a row, in the order in which it is handed. -/
def RightD (A S : Nat → Nat) (n : Nat) : Prop := (∀ i, i < n → rightOne (A i) (S i)) ∧ ∀ i k, i < n → k < n → i ≠ k → A i + S i ≤ A k ∨ A k + S k ≤ A i
theorem RightR.strict {A S : Nat → Nat} {n : Nat} (h : RightR A S n) : ∀ i j, i < j → j < n → A i < A j := fun i j hij hj => by
  have h1 := h.ord i j hij hj
  obtain ⟨_, _, h3, _⟩ := (h i (by omega)).1
  omega
theorem RightR.toD {n : Nat} {A0 S0 : Nat → Nat} {W0 X0 : Nat → Bool} {A S : Nat → Nat} {W X : Nat → Bool} (hd : Dat n A0 S0 W0 X0 A S W X) (h : RightR A S n) : RightD A0 S0 n := by
  obtain ⟨π, h1, h2, rfl, rfl, rfl, rfl⟩ := hd
  have hs := inj_surj n π h1 h2
  refine ⟨fun i hi => ?_, fun i k hi hk hne => ?_⟩
  · obtain ⟨t, ht, rfl⟩ := hs i hi
    exact (h t ht).1
  · obtain ⟨s, hs1, rfl⟩ := hs i hi
    obtain ⟨t, ht1, rfl⟩ := hs k hk
    rcases Nat.lt_trichotomy s t with e | e | e
    · exact .inl (h.ord s t e ht1)
    · subst e; exact absurd rfl hne
    · exact .inr (h.ord t s e hs1)
theorem RightD.toR {n : Nat} {A0 S0 : Nat → Nat} {W0 X0 : Nat → Bool} {A S : Nat → Nat} {W X : Nat → Bool} (hd : Dat n A0 S0 W0 X0 A S W X) (hs : ∀ x y, x < y → y < n → A x ≤ A y) (h : RightD A0 S0 n) : RightR A S n := by
  obtain ⟨π, h1, h2, rfl, rfl, rfl, rfl⟩ := hd
  intro i hi
  refine ⟨h.1 _ (h1 i hi), ?_⟩
  cases i with
  | zero => exact Nat.zero_le _
  | succ j =>
    show A0 (π j) + S0 (π j) ≤ A0 (π (j + 1))
    have e1 := hs j (j + 1) (by omega) hi
    have e1 : A0 (π j) ≤ A0 (π (j + 1)) := e1
    obtain ⟨_, _, h3, _⟩ := h.1 _ (h1 (j + 1) hi)
    rcases h.2 (π j) (π (j + 1)) (h1 j (by omega)) (h1 (j + 1) hi) (fun e => by have := h2 _ _ (by omega) hi e; omega) with e | e
    · exact e
    · omega
theorem Dat.uniq {n : Nat} {A0 S0 : Nat → Nat} {W0 X0 : Nat → Bool} {A S A' S' : Nat → Nat} {W X W' X' : Nat → Bool} (h : Dat n A0 S0 W0 X0 A S W X) (h' : Dat n A0 S0 W0 X0 A' S' W' X') (hs : ∀ i j, i < j → j < n → A i < A j) (hs' : ∀ i j, i < j → j < n → A' i < A' j) :
    ∀ i, i < n → A i = A' i ∧ S i = S' i ∧ W i = W' i ∧ X i = X' i := by
  obtain ⟨π, h1, h2, rfl, rfl, rfl, rfl⟩ := h
  obtain ⟨σ, k1, k2, rfl, rfl, rfl, rfl⟩ := h'
  have hp := inj_surj n π h1 h2
  have hq := inj_surj n σ k1 k2
  have key : ∀ i, i < n → π i = σ i := by
    intro i
    induction i using Nat.strongRecOn with
    | _ i ih =>
      intro hi
      obtain ⟨t, ht, et⟩ := hp (σ i) (k1 i hi)
      obtain ⟨s, hs1, es⟩ := hq (π i) (h1 i hi)
      have ht2 : i ≤ t := by
        rcases Nat.lt_or_ge t i with e | e
        · have := ih t e ht
          rw [et] at this
          have := k2 i t hi ht this
          omega
        · exact e
      have hs2 : i ≤ s := by
        rcases Nat.lt_or_ge s i with e | e
        · have := ih s e hs1
          rw [es] at this
          have := h2 s i hs1 hi this
          omega
        · exact e
      rcases Nat.lt_or_eq_of_le ht2 with e | e
      · have a1 : A0 (π i) < A0 (π t) := hs i t e ht
        rcases Nat.lt_or_eq_of_le hs2 with e2 | e2
        · have a2 : A0 (σ i) < A0 (σ s) := hs' i s e2 hs1
          rw [et] at a1
          rw [es] at a2
          omega
        · subst e2
          exact es.symm
      · subst e
        exact et
  intro i hi
  have := key i hi
  simp only [this, and_self]
end Go.Proofs.Ytjcbhomfggjmhaa.Mm
namespace Go.Proofs.Ytjcbhomfggjmhaa.Mm
open Go.ChangeShapes Go.WideShapes Go.ChangeAt Go.RowKit
set_option linter.unusedVariables false
/-- The same memory, as far as it goes. -/
structure Alike (M N : Me) : Prop where
  n : M.n = N.n
  A : ∀ k, k < M.n → M.A k = N.A k
  S : ∀ k, k < M.n → M.S k = N.S k
  W : ∀ k, k < M.n → M.W k = N.W k
  X : ∀ k, k < M.n → M.X k = N.X k
  y : ∀ k o, k < M.n → o < M.S k → M.y k o = N.y k o
theorem byL_congr (y z : Nat → Nat) (s : Nat) (h : ∀ o, o < s → y o = z o) : byL y s = byL z s := by
  unfold byL
  apply List.map_congr_left
  intro o ho
  rw [h o (List.mem_range.1 ho)]
theorem MeC.alike {tm ta : TypeId} {w : World} {FP : Nat → Prop} {p : Nat} {M N : Me} {v : Value} {B C : Nat → Nat} (h : MeC tm ta w FP p M v B C) (a : Alike M N) (hy : ∀ k o, N.y k o < 256) : MeC tm ta w FP p N v B C := by
  have hn := a.n
  refine ⟨h.row, ?_, fun k hk => ?_, fun i k hi hk => h.inj i k (by omega) (by omega), h.fp, h.fv, fun k hk => h.fb k (by omega), h.fl, ?_⟩
  · have e : arL N B C N.n = arL M B C M.n := by
      rw [← hn]
      refine arL_congr _ _ _ _ _ _ _ fun j hj => ?_
      unfold arC
      rw [a.A j hj, a.S j hj, a.W j hj, a.X j hj]
    rw [e, ← hn]
    exact h.ars
  · have hk2 : k < M.n := by omega
    have := h.byt k hk2
    rw [byL_congr _ (N.y k) _ (fun o ho => a.y k o hk2 ho), a.S k hk2] at this
    exact this
  · refine ⟨by rw [← hn]; exact h.ok.n16, fun j hj => ?_, fun i j hij hj => ?_, hy⟩
    · have hj2 : j < M.n := by omega
      rw [← a.A j hj2, ← a.S j hj2]
      exact h.ok.sz j hj2
    · have hj2 : j < M.n := by omega
      rw [← a.A i (by omega), ← a.S i (by omega), ← a.A j hj2]
      exact h.ok.ord i j hij hj2
theorem Hs.eight {M : Me} (h : MeOk M) {x k o : Nat} (a : Hs M x 0 k o) (h8 : x % 8 = 0) : Hs M x 8 k o := by
  obtain ⟨a1, a2, a3, _⟩ := a
  obtain ⟨_, _, _, b4, b5⟩ := h.sz k a1
  exact ⟨a1, a2, a3, by omega⟩
theorem Hs.four {M : Me} (h : MeOk M) {x k o : Nat} (a : Hs M x 0 k o) (h4 : x % 4 = 0) : Hs M x 4 k o := by
  obtain ⟨a1, a2, a3, _⟩ := a
  obtain ⟨_, _, _, b4, b5⟩ := h.sz k a1
  exact ⟨a1, a2, a3, by omega⟩
theorem Hs.one {M : Me} {x k o : Nat} (a : Hs M x 0 k o) : Hs M x 1 k o := ⟨a.1, a.2.1, a.2.2.1, by have := a.2.2.1; omega⟩
theorem Hs.less {M : Me} {x m k o : Nat} (a : Hs M x m k o) : Hs M x 0 k o := ⟨a.1, a.2.1, a.2.2.1, by have := a.2.2.1; omega⟩
/-- Two memories side by side: the program's and the document's, the same in all that they hold. -/
structure Bo (w : World) (F1 F2 : Nat → Prop) (p1 p2 : Nat) (M : Me) : Prop where
  pr : ∃ v B C, MeC 64 67 w F1 p1 M v B C
  dc : ∃ v B C, MeC 70 72 w F2 p2 M v B C
  ap : ∀ k, F1 k → ¬ F2 k
theorem Bo.past {w w' : World} {F1 F2 : Nat → Prop} {p1 p2 : Nat} {M : Me} (h : Bo w F1 F2 p1 p2 M) (hb : Below w.heap.size w w') : Bo w' F1 F2 p1 p2 M := by
  obtain ⟨⟨v, B, C, h1⟩, ⟨v2, B2, C2, h2⟩, h3⟩ := h
  exact ⟨⟨v, B, C, h1.past hb⟩, ⟨v2, B2, C2, h2.past hb⟩, h3⟩
theorem MeC.kp {tm ta : TypeId} {w w' : World} {FP F : Nat → Prop} {p : Nat} {M : Me} {v : Value} {B C : Nat → Nat} (h : MeC tm ta w FP p M v B C) (hk : Kp F w w') (ha : ∀ k, FP k → ¬ F k) : MeC tm ta w' FP p M v B C :=
  h.kept hk.size fun k hf => hk.block k (h.fl k hf) (ha k hf)
theorem Bo.ok {w : World} {F1 F2 : Nat → Prop} {p1 p2 : Nat} {M : Me} (h : Bo w F1 F2 p1 p2 M) : MeOk M := by
  obtain ⟨⟨v, B, C, h1⟩, _, _⟩ := h
  exact h1.ok
/-- Write on both, one after the other. -/
theorem bo_write (w : World) (F1 F2 : Nat → Prop) (p1 p2 : Nat) (M : Me) (h : Bo w F1 F2 p1 p2 M) (x u : Nat) (hx : x < 18446744073709551616) (hu : u < 18446744073709551616) :
    ∃ (r : Int) (M' : Me), Calls Try.prog 15 #[.pointer (some ⟨p1, 0, none⟩), .int .u64 x, .int .u64 u] w fun e w1 => e = .returned (.int .i64 r) ∧ Kp F1 w w1 ∧ (∃ v B C, MeC 64 67 w1 F1 p1 M' v B C) ∧
      Calls Try.prog 41 #[.pointer (some ⟨p2, 0, none⟩), .int .u64 x, .int .u64 u] w1 fun e w2 => e = .returned (.int .i64 r) ∧ Bo w2 F1 F2 p1 p2 M' ∧ Kp (fun k => F1 k ∨ F2 k) w w2 := by
  obtain ⟨⟨v, B, C, h1⟩, ⟨v2, B2, C2, h2⟩, h3⟩ := h
  have hok := h1.ok
  have refuse : ∀ {w1 : World}, Below w.heap.size w w1 → (Calls Try.prog 41 #[.pointer (some ⟨p2, 0, none⟩), .int .u64 x, .int .u64 u] w1 fun e w2 => e = .returned (.int .i64 8) ∧ Below w1.heap.size w1 w2) → Calls Try.prog 41 #[.pointer (some ⟨p2, 0, none⟩), .int .u64 x, .int .u64 u] w1 fun e w2 => e = .returned (.int .i64 8) ∧ Bo w2 F1 F2 p1 p2 M ∧ Kp (fun k => F1 k ∨ F2 k) w w2 := fun {w1} hb hc => hc.mono fun e w2 ⟨he, hb2⟩ =>
    have hbb := hb.trans (hb2.mono hb.size)
    ⟨he, ⟨⟨v, B, C, h1.past hbb⟩, ⟨v2, B2, C2, h2.past hbb⟩, h3⟩, Kp.of_below hbb⟩
  by_cases hf : ∃ k o, Hs M x 0 k o
  · obtain ⟨k, o, hs⟩ := hf
    by_cases h8 : x % 8 = 0
    · have hs8 := hs.eight hok h8
      cases hW : M.W k with
      | true =>
        refine ⟨0, M.ld k o (byts u 8), (write_y h1 hs8 h8 hW hu).mono fun e w1 ⟨he, hm, hk⟩ => ⟨he, hk, ⟨v, B, C, hm⟩, ?_⟩⟩
        have h2' := h2.kp hk (fun q hq hq1 => h3 q hq1 hq)
        exact (rwrite_y h2' hs8 h8 hW hu).mono fun e w2 ⟨he2, hm2, hk2⟩ => ⟨he2, ⟨⟨v, B, C, hm.kp hk2 h3⟩, ⟨v2, B2, C2, hm2⟩, h3⟩, (hk.mono fun q hq => .inl hq).trans (hk2.mono (FP' := fun k => F1 k ∨ F2 k) fun q hq => .inr hq) fun q hq => .inl hq⟩
      | false =>
        refine ⟨8, M, (write_m h1 hs (.inr hW)).mono fun e w1 ⟨he, q, hq⟩ => ?_⟩
        subst hq
        have hb := below_drewN (Below.refl w.heap.size w) q
        exact ⟨he, Kp.of_below hb, ⟨v, B, C, h1.past hb⟩, refuse hb (rwrite_x (h2.past hb) hs8 h8 hW)⟩
    · refine ⟨8, M, (write_m h1 hs (.inl h8)).mono fun e w1 ⟨he, q, hq⟩ => ?_⟩
      subst hq
      have hb := below_drewN (Below.refl w.heap.size w) q
      exact ⟨he, Kp.of_below hb, ⟨v, B, C, h1.past hb⟩, refuse hb (rwrite_m (h2.past hb) hx h8)⟩
  · refine ⟨8, M, (write_n h1 hx (fun k o hs => hf ⟨k, o, hs⟩)).mono fun e w1 ⟨he, q, hq⟩ => ?_⟩
    subst hq
    have hb := below_drewN (Below.refl w.heap.size w) q
    exact ⟨he, Kp.of_below hb, ⟨v, B, C, h1.past hb⟩, refuse hb (rwrite_n (h2.past hb) hx (fun k o hs => hf ⟨k, o, hs.less⟩))⟩
end Go.Proofs.Ytjcbhomfggjmhaa.Mm
namespace Go.Proofs.Ytjcbhomfggjmhaa.Mm
open Go.ChangeShapes Go.WideShapes Go.ChangeAt Go.RowKit
set_option linter.unusedVariables false
/-- Word of both. -/
theorem bo_word {w : World} {F1 F2 : Nat → Prop} {p1 p2 : Nat} {M : Me} (h : Bo w F1 F2 p1 p2 M) (x : Nat) (hx : x < 18446744073709551616) :
    ∃ (a r : Nat), a < 4294967296 ∧ (Calls Try.prog 68 #[.pointer (some ⟨p1, 0, none⟩), .int .u64 x] w fun e w1 => e = .returned (.tuple #[.int .u32 a, .int .i64 r]) ∧ Below w.heap.size w w1) ∧
      ∀ w1, Below w.heap.size w w1 → Calls Try.prog 66 #[.pointer (some ⟨p2, 0, none⟩), .int .u64 x] w1 fun e w2 => e = .returned (.tuple #[.int .u32 a, .int .i64 r]) ∧ Below w1.heap.size w1 w2 := by
  obtain ⟨⟨v, B, C, h1⟩, ⟨v2, B2, C2, h2⟩, h3⟩ := h
  have hok := h1.ok
  have dr : ∀ {e : Ending} {w1 : World} {t : Value}, (e = .returned t ∧ ∃ q, w1 = w.drewN q) → e = .returned t ∧ Below w.heap.size w w1 := fun ⟨he, q, hq⟩ => ⟨he, by subst hq; exact below_drewN (Below.refl _ _) q⟩
  by_cases hf : ∃ k o, Hs M x 0 k o
  · obtain ⟨k, o, hs⟩ := hf
    by_cases h4 : x % 4 = 0
    · have hs4 := hs.four hok h4
      cases hX : M.X k with
      | true =>
        have hl := rd_lt (fun i => M.y k (o + i)) (fun i => hok.byt k _) 4
        exact ⟨_, 0, hl, (word_y h1 hs4 h4 hX).mono fun e w1 h => dr h, fun w1 hb => rword_y (h2.past hb) hs4 h4 hX⟩
      | false => exact ⟨0, 8, by omega, (word_m h1 hs (.inr hX)).mono fun e w1 h => dr h, fun w1 hb => rword_x (h2.past hb) hs4 h4 hX⟩
    · exact ⟨0, 8, by omega, (word_m h1 hs (.inl h4)).mono fun e w1 h => dr h, fun w1 hb => rword_m (h2.past hb) hx h4⟩
  · exact ⟨0, 8, by omega, (word_n h1 hx (fun k o hs => hf ⟨k, o, hs⟩)).mono fun e w1 h => dr h, fun w1 hb => rword_n (h2.past hb) hx (fun k o hs => hf ⟨k, o, hs.less⟩)⟩
end Go.Proofs.Ytjcbhomfggjmhaa.Mm
namespace Go.Proofs.Ytjcbhomfggjmhaa.Mm
open Go.ChangeShapes Go.WideShapes Go.ChangeAt Go.RowKit
set_option linter.unusedVariables false
/-- The string of these bytes. -/
def sOf (l : List Nat) : ByteArray := (l.map fun c : Nat => (c : Int)).foldl (fun r n => r.push (UInt8.ofNat n.toNat)) ByteArray.empty
theorem str_own {w : World} {b : Nat} {v : Value} {l : List Nat} (h : w.ownsRow b 5 1 v l.length (l.map fun c => .int .u8 (c : Nat))) : (convert 22 9 v).run Try.prog w = .ok (.string (sOf l)) w := by
  rcases h.2 with ⟨rfl, h0⟩ | ⟨g, cap, cur, hv, hb, hg, hc, hm, hs, ht⟩
  · have : l = [] := List.length_eq_zero_iff.1 h0
    subst this
    rw [run_convert_bytes_string w 22 9 5 none 0 0 Try.underlying22 Try.underlying5 Try.underlying9]
    simp [Conv.bytesToString, sOf, Sem.run_pure]
  · subst hv
    rw [run_convert_bytes_string w 22 9 5 _ _ _ Try.underlying22 Try.underlying5 Try.underlying9]
    refine run_bytesToString w _ _ _ (l.map fun c : Nat => (c : Int)) ?_
    have := run_loadCells_list (P := Try.prog) w ⟨g, 0, none⟩ (l.map fun c => Value.int .u8 (c : Nat)) (fun j u hj => by
      have e : (⟨g, 0, none⟩ : Addr).add j = ⟨g, j, none⟩ := by unfold Addr.add; split <;> simp_all
      rw [e]
      exact (own_cells h).1 j u hj)
    rw [List.length_map] at this
    rw [this, List.map_map]
    rfl
end Go.Proofs.Ytjcbhomfggjmhaa.Mm
namespace Go.Proofs.Ytjcbhomfggjmhaa.Mm
open Go.ChangeShapes Go.WideShapes Go.ChangeAt Go.RowKit
set_option linter.unusedVariables false
/-- Where a slice of bytes lies that came in. -/
def SrcB (w : World) (sp : Option Addr) (m : Nat) (l : Nat → Nat) (F1 F2 : Nat → Prop) : Prop := 0 < m → ∃ sb so, sp = some ⟨sb, so, none⟩ ∧ ¬ F1 sb ∧ ¬ F2 sb ∧ sb < w.heap.size ∧ ∀ j, j < m → w.cell? ⟨sb, so + j, none⟩ = some (.int .u8 (l j : Nat))
theorem SrcB.kp {w w' : World} {sp : Option Addr} {m : Nat} {l : Nat → Nat} {F1 F2 F : Nat → Prop} (h : SrcB w sp m l F1 F2) (hk : Kp F w w') (hF : ∀ k, F k → F1 k ∨ F2 k) : SrcB w' sp m l F1 F2 := fun h0 => by
  obtain ⟨sb, so, e, n1, n2, hl, hc⟩ := h h0
  refine ⟨sb, so, e, n1, n2, Nat.lt_of_lt_of_le hl hk.size, fun j hj => ?_⟩
  rw [← hc j hj]
  unfold World.cell?
  rw [hk.block sb hl (fun hf => by
    rcases hF sb hf with h1 | h1
    · exact n1 h1
    · exact n2 h1)]
theorem SrcB.bys {w : World} {sp : Option Addr} {m cs : Nat} {l : Nat → Nat} {F1 F2 : Nat → Prop} (h : SrcB w sp m l F1 F2) (hcs : m ≤ cs) : Bys w (.slice sp m cs) ((List.range m).map l) := by
  refine ⟨sp, cs, by simp, by simpa using hcs, fun h0 => ?_⟩
  obtain ⟨sb, so, e, n1, n2, hl, hc⟩ := h (by simpa using h0)
  refine ⟨_, e, hl, fun j c hj => ?_⟩
  have hj1 : j < m := by simpa using (List.getElem?_eq_some_iff.1 hj).1
  rw [List.getElem?_map, List.getElem?_range hj1] at hj
  injection hj with hj
  subst hj
  have : (⟨sb, so, none⟩ : Addr).add j = ⟨sb, so + j, none⟩ := by unfold Addr.add; split <;> simp_all
  rw [this]
  exact hc j hj1
/-- Load of both, one after the other. -/
theorem bo_load (w : World) (F1 F2 : Nat → Prop) (p1 p2 : Nat) (M : Me) (h : Bo w F1 F2 p1 p2 M) (x m cs : Nat) (sp : Option Addr) (l : Nat → Nat) (hx : x < 18446744073709551616) (hm : m < 9223372036854775808) (hcs : m ≤ cs) (hs : SrcB w sp m l F1 F2) (hl : ∀ j, l j < 256) :
    ∃ (r : Int) (M' : Me), Calls Try.prog 8 #[.pointer (some ⟨p1, 0, none⟩), .int .u64 x, .slice sp m cs] w fun e w1 => e = .returned (.int .i64 r) ∧ Kp F1 w w1 ∧ (∃ v B C, MeC 64 67 w1 F1 p1 M' v B C) ∧
      Calls Try.prog 9 #[.pointer (some ⟨p2, 0, none⟩), .int .u64 x, .slice sp m cs] w1 fun e w2 => e = .returned (.int .i64 r) ∧ Bo w2 F1 F2 p1 p2 M' ∧ Kp (fun k => F1 k ∨ F2 k) w w2 := by
  obtain ⟨⟨v, B, C, h1⟩, ⟨v2, B2, C2, h2⟩, h3⟩ := h
  have hlen : ((List.range m).map l).length = m := by simp
  by_cases hf : ∃ k o, Hs M x m k o
  · obtain ⟨k, o, hh⟩ := hf
    refine ⟨0, M.ld k o ((List.range m).map l), (load_y h1 (by rw [hlen]; exact hh) (hs.bys hcs) (fun c hc => by obtain ⟨i, _, rfl⟩ := List.mem_map.1 hc; exact hl i)).mono fun e w1 ⟨he, hm1, hk⟩ => ⟨he, hk, ⟨v, B, C, hm1⟩, ?_⟩⟩
    have h2' := h2.kp hk (fun q hq hq1 => h3 q hq1 hq)
    have hs' := hs.kp hk (fun k hk => .inl hk)
    refine (rload_y h2' hh hcs (fun h0 => ?_) hl).mono fun e w2 ⟨he2, hm2, hk2⟩ => ⟨he2, ⟨⟨v, B, C, hm1.kp hk2 h3⟩, ⟨v2, B2, C2, hm2⟩, h3⟩, (hk.mono fun q hq => .inl hq).trans (hk2.mono (FP' := fun k => F1 k ∨ F2 k) fun q hq => .inr hq) fun q hq => .inl hq⟩
    obtain ⟨sb, so, e, _, n2, hlt, hc⟩ := hs' h0
    exact ⟨sb, so, e, n2, hlt, hc⟩
  · have hno : ∀ k o, ¬ Hs M x m k o := fun k o hh => hf ⟨k, o, hh⟩
    refine ⟨8, M, (load_n h1 hx (by rw [hlen]; exact hno) (hs.bys hcs) (by rw [hlen]; omega)).mono fun e w1 ⟨he, q, hq⟩ => ?_⟩
    subst hq
    have hb := below_drewN (Below.refl w.heap.size w) q
    refine ⟨he, Kp.of_below hb, ⟨v, B, C, h1.past hb⟩, (rload_n (h2.past hb) hx hm hno).mono fun e w2 ⟨he, hb2⟩ => ?_⟩
    have hbb := hb.trans (hb2.mono hb.size)
    exact ⟨he, ⟨⟨v, B, C, h1.past hbb⟩, ⟨v2, B2, C2, h2.past hbb⟩, h3⟩, Kp.of_below hbb⟩
end Go.Proofs.Ytjcbhomfggjmhaa.Mm
