import Derived.Test.YtapcapcbndooiaaRows
import Derived.WalkKit
import Derived.ProofKit
import Derived.OpenShut
import Derived.Deep.QuietTactic
import Derived.BigQuiet
import Derived.Outline
import Derived.WalkSmall
import Derived.WalkLawsBesides
import Derived.WalkSpells
import Derived.BigGuardPart
import Derived.RegionTactic
import Derived.Deep.RegionHeld3
import Derived.Lib.Hide
import Derived.Deep.OwnRows
import Derived.Maps.AppendAt
import Derived.Deep.AppendLies
import Derived.Below
import Derived.Test.YtapcapcbndooiaaNewZ
import Derived.Test.YtapcapcbndooiaaFewC
namespace Go.Proofs.Ytapcapcbndooiaa
open Go.ChangeShapes Go.WideShapes Go.ChangeAt Go.RowKit
set_option linter.unusedVariables false
def MemAny (w : World) (N mb n : Nat) (A S : Nat → Nat) (W X : Nat → Bool) (B : Nat → Nat) : Prop :=
  (n = 0 ∧ w.cell? ⟨mb, 0, none⟩ = some (.slice none 0 0)) ∨ (0 < n ∧ right A S n ∧ (∀ j, j + 1 < n → A j + S j ≤ A (j + 1)) ∧ ∃ ab cap, MemNew w N mb ab n cap A S W X B)
theorem first_or_none (A S : Nat → Nat) (x : Nat) : ∀ n, (∃ k, k < n ∧ inA A S k x ∧ ∀ j, j < k → ¬ inA A S j x) ∨ (∀ j, j < n → ¬ inA A S j x)
  | 0 => Or.inr (fun j hj => by omega)
  | n + 1 => by
    rcases first_or_none A S x n with ⟨k, hk, h1, h2⟩ | h
    · exact Or.inl ⟨k, by omega, h1, h2⟩
    · by_cases hn : inA A S n x
      · exact Or.inl ⟨n, by omega, hn, h⟩
      · refine Or.inr (fun j hj => ?_)
        rcases Nat.lt_or_ge j n with g | g
        · exact h j g
        · obtain rfl : j = n := by omega
          exact hn
theorem in_one (A S : Nat → Nat) (n : Nat) (hs : ∀ j, j + 1 < n → A j + S j ≤ A (j + 1)) (x i k : Nat) (hi : i < n) (hk : k < n) (h1 : inA A S i x) (h2 : inA A S k x) : i = k := by
  have mono : ∀ d i, i + d < n → 0 < d → A i + S i ≤ A (i + d) := by
    intro d
    induction d with
    | zero => intro i _ h; omega
    | succ d ih =>
      intro i hi _
      by_cases hd : d = 0
      · subst hd; exact hs i hi
      · have a1 := ih i (by omega) (by omega)
        have a2 := hs (i + d) (by omega)
        have : A (i + d) ≤ A (i + d + 1) := by omega
        exact Nat.le_trans a1 this
  unfold inA at h1 h2
  rcases Nat.lt_trichotomy i k with h | h | h
  · have := mono (k - i) i (by omega) (by omega)
    rw [show i + (k - i) = k by omega] at this
    omega
  · exact h
  · have := mono (i - k) k (by omega) (by omega)
    rw [show k + (i - k) = i by omega] at this
    omega
/-- What the byte at x is. -/
def ByteIs (w : World) (n : Nat) (A S : Nat → Nat) (B : Nat → Nat) (x c f : Nat) : Prop := c < 256 ∧ ((∃ k, k < n ∧ inA A S k x ∧ w.cell? ⟨B k, x - A k, none⟩ = some (.int .u8 (c : Nat)) ∧ f = 0) ∨ ((∀ j, j < n → ¬ inA A S j x) ∧ c = 0 ∧ f = 8))
def ByteP (n : Nat) (A S : Nat → Nat) (B : Nat → Nat) (x : Nat) (w : World) (e : Ending) (w' : World) : Prop := ∃ c f : Nat, e = .returned (.tuple #[.int .u8 c, .int .i64 f]) ∧ ByteIs w n A S B x c f ∧ ∃ q, w' = w.drewN q
theorem byte_any (N mb n x : Nat) (A S : Nat → Nat) (W X : Nat → Bool) (B : Nat → Nat) (w : World) (hx : x < 18446744073709551616) (HM : Hid (MemAny w N mb n A S W X B)) :
    Calls Try.prog 39 #[.pointer (some ⟨mb, 0, none⟩), .int .u64 x] w (ByteP n A S B x w) := by
  rcases HM.out with ⟨rfl, hc⟩ | ⟨hn, hr, hs, ab, cap, hN⟩
  · refine (byte_0 mb x w hc).mono ?_
    rintro e w' ⟨rfl, q, rfl⟩
    exact ⟨0, 8, rfl, ⟨by decide, Or.inr ⟨fun j hj => by omega, rfl, rfl⟩⟩, q, rfl⟩
  · rcases first_or_none A S x n with ⟨k, hk, h1, h2⟩ | h
    · have h1' : A k ≤ x ∧ x < A k + S k := h1
      obtain ⟨c, hc, c1, c2⟩ := hN.2.2.2.2.2 k (x - A k) hk (by omega)
      refine (byte_y mb ab n cap k (x - A k) x c A S W X B w hk h2 (Lib.hid (by omega)) (by omega) c1 (Lib.hid hN.1)).mono ?_
      rintro e w' ⟨rfl, q, rfl⟩
      exact ⟨c, 0, rfl, ⟨hc, Or.inl ⟨k, hk, h1, c1, rfl⟩⟩, q, rfl⟩
    · refine (byte_n mb ab n cap x A S W X B w hx h (Lib.hid hN.1)).mono ?_
      rintro e w' ⟨rfl, q, rfl⟩
      exact ⟨0, 8, rfl, ⟨by decide, Or.inr ⟨h, rfl, rfl⟩⟩, q, rfl⟩
/-- What a write does: it is refused, or it is done in a region. -/
def WriteP (N mb n : Nat) (A S : Nat → Nat) (W X : Nat → Bool) (B : Nat → Nat) (x v : Nat) (w : World) (e : Ending) (w' : World) : Prop :=
  (e = .returned (.int .i64 8) ∧ ∃ q, w' = w.drewN q) ∨ (e = .returned (.int .i64 0) ∧ ∃ k, k < n ∧ A k ≤ x ∧ x + 8 ≤ A k + S k ∧ Wrote w w' (B k) (x - A k) v 8)
theorem write_any (N mb n x v : Nat) (A S : Nat → Nat) (W X : Nat → Bool) (B : Nat → Nat) (w : World) (hx : x < 18446744073709551616) (hv : v < 18446744073709551616) (HM : Hid (MemAny w N mb n A S W X B)) :
    Calls Try.prog 38 #[.pointer (some ⟨mb, 0, none⟩), .int .u64 x, .int .u64 v] w (WriteP N mb n A S W X B x v w) := by
  rcases HM.out with ⟨rfl, hc⟩ | ⟨hn, hr, hs, ab, cap, hN⟩
  · refine (write_0 mb x v w hc).mono ?_
    rintro e w' h
    exact Or.inl h
  · rcases first_or_none A S x n with ⟨k, hk, h1, h2⟩ | h
    · have h1' : A k ≤ x ∧ x < A k + S k := h1
      by_cases hb : x % 8 ≠ 0 ∨ W k = false
      · refine (write_s mb ab n cap k x v A S W X B w hk hx h2 h1 hb (Lib.hid hN.1)).mono ?_
        rintro e w' h
        exact Or.inl h
      · have h8 : x % 8 = 0 := Decidable.byContradiction fun c => hb (Or.inl c)
        have hw : W k = true := by cases hk' : W k with | true => rfl | false => exact absurd (Or.inr hk') hb
        obtain ⟨g1, g2, g3, g4, g5⟩ := hr k hk
        have hfit : x + 8 ≤ A k + S k := by omega
        refine (write_y mb ab n cap k (x - A k) x v A S W X B w hk h2 (Lib.hid (by omega)) (by omega) h8 hv hw (fun j hj => ?_) (Lib.hid hN.1)).mono ?_
        · obtain ⟨c, _, c1, c2⟩ := hN.2.2.2.2.2 k (x - A k + j) hk (by omega)
          exact ⟨by rw [c1]; rfl, c2⟩
        · rintro e w' ⟨rfl, h⟩
          exact Or.inr ⟨rfl, k, hk, h1'.1, hfit, h⟩
    · refine (write_n mb ab n cap x v A S W X B w hx h (Lib.hid hN.1)).mono ?_
      rintro e w' h
      exact Or.inl h
theorem MemAny.wrote {w w' : World} {N mb n k o v m : Nat} {A S : Nat → Nat} {W X : Nat → Bool} {B : Nat → Nat} (h : MemAny w N mb n A S W X B) (hk : k < n) (hw : Wrote w w' (B k) o v m) : MemAny w' N mb n A S W X B ∧ Below N w w' := by
  rcases h with ⟨rfl, _⟩ | ⟨hn, hr, hs, ab, cap, hN⟩
  · omega
  · exact ⟨Or.inr ⟨hn, hr, hs, ab, cap, hN.wrote hk hw⟩, hw.1.mono (hN.2.2.2.1 k hk).1⟩
theorem MemAny.drewN {w : World} {N mb n : Nat} {A S : Nat → Nat} {W X : Nat → Bool} {B : Nat → Nat} (h : MemAny w N mb n A S W X B) (q : Nat) : MemAny (w.drewN q) N mb n A S W X B := h
theorem ByteIs.uniq {w : World} {n x c f c' f' : Nat} {A S : Nat → Nat} {B : Nat → Nat} (hs : ∀ j, j + 1 < n → A j + S j ≤ A (j + 1)) (h : ByteIs w n A S B x c f) (g : ByteIs w n A S B x c' f') : c = c' ∧ f = f' := by
  obtain ⟨h0, h⟩ := h
  obtain ⟨g0, g⟩ := g
  rcases h with ⟨k, hk, hi, hc, rfl⟩ | ⟨hno, rfl, rfl⟩
  · rcases g with ⟨l, hl, gi, gc, rfl⟩ | ⟨gno, rfl, rfl⟩
    · obtain rfl := in_one A S n hs x k l hk hl hi gi
      rw [hc] at gc
      injection gc with gc
      injection gc with _ gc
      exact ⟨by omega, rfl⟩
    · exact absurd hi (gno k hk)
  · rcases g with ⟨l, hl, gi, gc, rfl⟩ | ⟨gno, rfl, rfl⟩
    · exact absurd gi (hno l hl)
    · exact ⟨rfl, rfl⟩
/-- Behind a write that was done: the byte is a new one within its eight, the old one elsewhere. -/
theorem ByteIs.wrote {w w' : World} {N mb n k y x v c f c' f' : Nat} {A S : Nat → Nat} {W X : Nat → Bool} {B : Nat → Nat} (hM : MemAny w N mb n A S W X B) (hk : k < n) (h1 : A k ≤ y) (h2 : y + 8 ≤ A k + S k) (hw : Wrote w w' (B k) (y - A k) v 8) (h : ByteIs w n A S B x c f) (g : ByteIs w' n A S B x c' f') :
    f = f' ∧ (y ≤ x ∧ x < y + 8 → c' = byteOf v (x - y)) ∧ (¬ (y ≤ x ∧ x < y + 8) → c = c') := by
  rcases hM with ⟨rfl, _⟩ | ⟨hn, hr, hs, ab, cap, hN⟩
  · omega
  · obtain ⟨h0, h⟩ := h
    obtain ⟨g0, g⟩ := g
    rcases h with ⟨k1, hk1, hi, hc, rfl⟩ | ⟨hno, rfl, rfl⟩
    · rcases g with ⟨l, hl, gi, gc, rfl⟩ | ⟨gno, rfl, rfl⟩
      · obtain rfl := in_one A S n hs x k1 l hk1 hl hi gi
        have hi' : A k1 ≤ x ∧ x < A k1 + S k1 := hi
        refine ⟨rfl, fun hr => ?_, fun hr => ?_⟩
        · have : k1 = k := in_one A S n hs x k1 k hk1 hk hi ⟨by omega, by omega⟩
          subst this
          have e := hw.2.2.2.2 (x - y) (by omega)
          rw [show y - A k1 + (x - y) = x - A k1 by omega] at e
          rw [e] at gc
          injection gc with gc
          injection gc with _ gc
          omega
        · have e := hw.2.2.2.1 (B k1) (x - A k1) (by
            by_cases hkk : k1 = k
            · subst hkk; omega
            · exact Or.inl (hN.2.2.2.2.1 k1 k hk1 hk hkk))
          rw [e, hc] at gc
          injection gc with gc
          injection gc with _ gc
          omega
      · exact absurd hi (gno k1 hk1)
    · rcases g with ⟨l, hl, gi, gc, rfl⟩ | ⟨gno, rfl, rfl⟩
      · exact absurd gi (hno l hl)
      · exact ⟨rfl, fun hr => absurd ⟨by omega, by omega⟩ (hno k hk), fun _ => rfl⟩
end Go.Proofs.Ytapcapcbndooiaa
