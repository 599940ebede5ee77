import Derived.Test.YtnbpgoacooddjaaMx
namespace Go.Proofs.Ytnbpgoacooddjaa.Mm
open Go.ChangeShapes Go.WideShapes Go.ChangeAt Go.RowKit
set_option linter.unusedVariables false
/-- Read of both. -/
theorem bo_read {w : World} {F1 F2 : Nat → Prop} {p1 p2 : Nat} {M : Me} (h : Bo w F1 F2 p1 p2 M) (x : Nat) (hx : x < 18446744073709551616) :
    ∃ (a r : Nat), a < 18446744073709551616 ∧ (Calls Try.prog 139 #[.pointer (some ⟨p1, 0, none⟩), .int .u64 x] w fun e w1 => e = .returned (.tuple #[.int .u64 a, .int .i64 r]) ∧ Below w.heap.size w w1) ∧
      ∀ w1, Below w.heap.size w w1 → Calls Try.prog 142 #[.pointer (some ⟨p2, 0, none⟩), .int .u64 x] w1 fun e w2 => e = .returned (.tuple #[.int .u64 a, .int .i64 r]) ∧ Below w1.heap.size w1 w2 := by
  obtain ⟨⟨v, B, C, h1⟩, ⟨v2, B2, C2, h2⟩, h3⟩ := h
  have hok := h1.ok
  have dr : ∀ {e : Ending} {w1 : World} {t : Value}, (e = .returned t ∧ ∃ q, w1 = w.drewN q) → e = .returned t ∧ Below w.heap.size w w1 := fun ⟨he, q, hq⟩ => ⟨he, by subst hq; exact below_drewN (Below.refl _ _) q⟩
  by_cases hf : ∃ k o, Hs M x 8 k o
  · obtain ⟨k, o, hs⟩ := hf
    by_cases h8 : x % 8 = 0
    · have hl := rd_lt (fun i => M.y k (o + i)) (fun i => hok.byt k _) 8
      exact ⟨_, 0, hl, (read_y h1 hs h8).mono fun e w1 h => dr h, fun w1 hb => rread_y (h2.past hb) hs h8⟩
    · exact ⟨0, 8, by omega, (read_m h1 hs h8).mono fun e w1 h => dr h, fun w1 hb => rread_m (h2.past hb) hx h8⟩
  · have hno : ∀ k o, ¬ Hs M x 8 k o := fun k o hs => hf ⟨k, o, hs⟩
    exact ⟨0, 8, by omega, (read_n h1 hx hno).mono fun e w1 h => dr h, fun w1 hb => rread_n (h2.past hb) hx hno⟩
/-- Byte of both. -/
theorem bo_byte {w : World} {F1 F2 : Nat → Prop} {p1 p2 : Nat} {M : Me} (h : Bo w F1 F2 p1 p2 M) (x : Nat) (hx : x < 18446744073709551616) :
    ∃ (a r : Nat), a < 256 ∧ (Calls Try.prog 138 #[.pointer (some ⟨p1, 0, none⟩), .int .u64 x] w fun e w1 => e = .returned (.tuple #[.int .u8 a, .int .i64 r]) ∧ Below w.heap.size w w1) ∧
      ∀ w1, Below w.heap.size w w1 → Calls Try.prog 143 #[.pointer (some ⟨p2, 0, none⟩), .int .u64 x] w1 fun e w2 => e = .returned (.tuple #[.int .u8 a, .int .i64 r]) ∧ Below w1.heap.size w1 w2 := by
  obtain ⟨⟨v, B, C, h1⟩, ⟨v2, B2, C2, h2⟩, h3⟩ := h
  have hok := h1.ok
  have dr : ∀ {e : Ending} {w1 : World} {t : Value}, (e = .returned t ∧ ∃ q, w1 = w.drewN q) → e = .returned t ∧ Below w.heap.size w w1 := fun ⟨he, q, hq⟩ => ⟨he, by subst hq; exact below_drewN (Below.refl _ _) q⟩
  by_cases hf : ∃ k o, Hs M x 1 k o
  · obtain ⟨k, o, hs⟩ := hf
    exact ⟨_, 0, hok.byt k o, (byte_y h1 hs).mono fun e w1 h => dr h, fun w1 hb => rbyte_y (h2.past hb) hs⟩
  · have hno : ∀ k o, ¬ Hs M x 1 k o := fun k o hs => hf ⟨k, o, hs⟩
    exact ⟨0, 8, by omega, (byte_n h1 hx hno).mono fun e w1 h => dr h, fun w1 hb => rbyte_n (h2.past hb) hx hno⟩
/-- Word of both. -/
theorem bo_word {w : World} {F1 F2 : Nat → Prop} {p1 p2 : Nat} {M : Me} (h : Bo w F1 F2 p1 p2 M) (x : Nat) (hx : x < 18446744073709551616) :
    ∃ (a r : Nat), a < 4294967296 ∧ (Calls Try.prog 128 #[.pointer (some ⟨p1, 0, none⟩), .int .u64 x] w fun e w1 => e = .returned (.tuple #[.int .u32 a, .int .i64 r]) ∧ Below w.heap.size w w1) ∧
      ∀ w1, Below w.heap.size w w1 → Calls Try.prog 144 #[.pointer (some ⟨p2, 0, none⟩), .int .u64 x] w1 fun e w2 => e = .returned (.tuple #[.int .u32 a, .int .i64 r]) ∧ Below w1.heap.size w1 w2 := by
  obtain ⟨⟨v, B, C, h1⟩, ⟨v2, B2, C2, h2⟩, h3⟩ := h
  have hok := h1.ok
  have dr : ∀ {e : Ending} {w1 : World} {t : Value}, (e = .returned t ∧ ∃ q, w1 = w.drewN q) → e = .returned t ∧ Below w.heap.size w w1 := fun ⟨he, q, hq⟩ => ⟨he, by subst hq; exact below_drewN (Below.refl _ _) q⟩
  by_cases hf : ∃ k o, Hs M x 0 k o
  · obtain ⟨k, o, hs⟩ := hf
    by_cases h4 : x % 4 = 0
    · have hs4 := hs.four hok h4
      cases hX : M.X k with
      | true =>
        have hl := rd_lt (fun i => M.y k (o + i)) (fun i => hok.byt k _) 4
        exact ⟨_, 0, hl, (word_y h1 hs4 h4 hX).mono fun e w1 h => dr h, fun w1 hb => rword_y (h2.past hb) hs4 h4 hX⟩
      | false => exact ⟨0, 8, by omega, (word_m h1 hs (.inr hX)).mono fun e w1 h => dr h, fun w1 hb => rword_x (h2.past hb) hs4 h4 hX⟩
    · exact ⟨0, 8, by omega, (word_m h1 hs (.inl h4)).mono fun e w1 h => dr h, fun w1 hb => rword_m (h2.past hb) hx h4⟩
  · exact ⟨0, 8, by omega, (word_n h1 hx (fun k o hs => hf ⟨k, o, hs⟩)).mono fun e w1 h => dr h, fun w1 hb => rword_n (h2.past hb) hx (fun k o hs => hf ⟨k, o, hs.less⟩)⟩
/-- At of both. -/
theorem bo_at {w : World} {F1 F2 : Nat → Prop} {p1 p2 : Nat} {M : Me} (h : Bo w F1 F2 p1 p2 M) (x : Nat) (hx : x < 18446744073709551616) :
    ∃ (a s : Nat) (b c d : Bool), (Calls Try.prog 145 #[.pointer (some ⟨p1, 0, none⟩), .int .u64 x] w fun e w1 => e = .returned (.tuple #[.agg #[.int .u64 a, .int .u64 s, .bool b, .bool c], .bool d]) ∧ Below w.heap.size w w1) ∧
      ∀ w1, Below w.heap.size w w1 → Calls Try.prog 146 #[.pointer (some ⟨p2, 0, none⟩), .int .u64 x] w1 fun e w2 => e = .returned (.tuple #[.agg #[.int .u64 a, .int .u64 s, .bool b, .bool c], .bool d]) ∧ Below w1.heap.size w1 w2 := by
  obtain ⟨⟨v, B, C, h1⟩, ⟨v2, B2, C2, h2⟩, h3⟩ := h
  by_cases hf : ∃ k o, Hs M x 0 k o
  · obtain ⟨k, o, hs⟩ := hf
    exact ⟨M.A k, M.S k, M.W k, M.X k, true, at_y h1 hs, fun w1 hb => rat_y (h2.past hb) hs.one⟩
  · exact ⟨0, 0, false, false, false, at_n h1 hx (fun k o hs => hf ⟨k, o, hs⟩), fun w1 hb => rat_n (h2.past hb) hx (fun k o hs => hf ⟨k, o, hs.less⟩)⟩
/-- Copy of both. -/
theorem bo_copy {w : World} {F1 F2 : Nat → Prop} {p1 p2 : Nat} {M : Me} (h : Bo w F1 F2 p1 p2 M) (x : Nat) (m : Int) (hx : x < 18446744073709551616) (hm : m ≤ 9223372036854775807) :
    ∃ (l : List Nat) (r : Nat), (∀ c ∈ l, c < 256) ∧ (Calls Try.prog 147 #[.pointer (some ⟨p1, 0, none⟩), .int .u64 x, .int .i64 m] w fun e w1 => (∃ v', e = .returned (.tuple #[v', .int .i64 r]) ∧ w1.ownsRow w.heap.size 5 1 v' l.length (l.map fun c => .int .u8 (c : Nat))) ∧ Below w.heap.size w w1) ∧
      ∀ w1, Below w.heap.size w w1 → Calls Try.prog 148 #[.pointer (some ⟨p2, 0, none⟩), .int .u64 x, .int .i64 m] w1 fun e w2 => (∃ v', e = .returned (.tuple #[v', .int .i64 r]) ∧ w2.ownsRow w1.heap.size 5 1 v' l.length (l.map fun c => .int .u8 (c : Nat))) ∧ Below w1.heap.size w1 w2 := by
  obtain ⟨⟨v, B, C, h1⟩, ⟨v2, B2, C2, h2⟩, h3⟩ := h
  have hok := h1.ok
  by_cases hf : ∃ k o K : Nat, m = K ∧ Hs M x K k o
  · obtain ⟨k, o, K, rfl, hs⟩ := hf
    refine ⟨M.cut k o K, 0, fun c hc => ?_, ?_, fun w1 hb => ?_⟩
    · unfold Me.cut at hc
      obtain ⟨i, _, rfl⟩ := List.mem_map.1 hc
      exact hok.byt k _
    · rw [cut_len]
      exact copy_y h1 hs
    · rw [cut_len]
      exact rcopy_y (h2.past hb) hs
  · have hno : ∀ k o K : Nat, m = K → ¬ Hs M x K k o := fun k o K e hs => hf ⟨k, o, K, e, hs⟩
    refine ⟨[], 8, fun c hc => absurd hc (by simp), (copy_n h1 hx hm hno).mono fun e w1 ⟨he, q, hq⟩ => ⟨⟨_, he, rfl, .inl ⟨rfl, rfl⟩⟩, (by subst hq; exact below_drewN (Below.refl _ _) q)⟩, fun w1 hb => ?_⟩
    by_cases h0 : 0 ≤ m
    · exact (rcopy_n (h2.past hb) hx hm h0 hno).mono fun e w2 ⟨he, hb2⟩ => ⟨⟨_, he, rfl, .inl ⟨rfl, rfl⟩⟩, hb2⟩
    · exact (rcopy_z w1 _ (by omega)).mono fun e w2 ⟨he, hb2⟩ => ⟨⟨_, he, rfl, .inl ⟨rfl, rfl⟩⟩, by subst hb2; exact Below.refl _ _⟩
end Go.Proofs.Ytnbpgoacooddjaa.Mm
