import Derived.Deep.CutBlock
import Derived.Deep.DeepCutAuto
import Derived.Test.YtnmgafaebggeiaaKe
import Derived.Carry
import Derived.WalkKit
import Derived.ProofKit
import Derived.OpenShut
import Derived.Deep.QuietTactic
import Derived.BigQuiet
import Derived.Outline
import Derived.WalkSmall
import Derived.WalkLawsBesides
import Derived.WalkSpells
import Derived.BigGuardPart
import Derived.RegionTactic
import Derived.Deep.RegionHeld3
import Derived.Lib.Hide
import Derived.Deep.MidRow
import Derived.Below
import Derived.Deep.RegionWith
import Derived.Deep.OwnRows
import Derived.Deep.AppendLies
namespace Go.Proofs.Ytnmgafaebggeiaa
open Go.ChangeShapes Go.WideShapes Go.ChangeAt Go.RowKit
set_option linter.unusedVariables false
structure Iv (w : World) (E : Nat) (oy ok : Option Nat) (or : Option (Nat × Value × Value)) (W : World) : Prop where
  e : rowAt W E = some evs
  y : ∀ b, oy = some b → rowAt W b = some #[.bool false, .bool false, .bool false] ∧ w.heap.size ≤ b
  k : ∀ b, ok = some b → rowAt W b = some #[.int .i64 0, .int .i64 0, .int .i64 0, .int .i64 0, .int .i64 0, .int .i64 0, .int .i64 0, .int .i64 0, .int .i64 0, .int .i64 0, .int .i64 0, .int .i64 0] ∧ w.heap.size ≤ b
  r : ∀ t, or = some t → rowAt W t.1 = some #[t.2.1, t.2.2, .slice none 0 0, .slice none 0 0] ∧ LstF (t.1 + 1) W t.2.1 [0, 2] ∧ LstF (t.1 + 1) W t.2.2 [1]
  b : Below w.heap.size w W
theorem Iv.past {w : World} {E : Nat} {oy ok : Option Nat} {or : Option (Nat × Value × Value)} {W V w' : World} (h : Iv w E oy ok or W) (hb : Below V.heap.size V w') (he : V.heap = W.heap) (ho : V.os = W.os) (ht : V.tape = W.tape) (hp : V.output = W.output) : Iv w E oy ok or w' :=
  ⟨rowAt_below h.e hb he, fun b hh => ⟨rowAt_below (h.y b hh).1 hb he, (h.y b hh).2⟩, fun b hh => ⟨rowAt_below (h.k b hh).1 hb he, (h.k b hh).2⟩, fun t hh => ⟨rowAt_below (h.r t hh).1 hb he, ⟨own_past (h.r t hh).2.1.1 hb he, (h.r t hh).2.1.2⟩, ⟨own_past (h.r t hh).2.2.1 hb he, (h.r t hh).2.2.2⟩⟩, below_step h.b hb he ho ht hp⟩
theorem Iv.al {w : World} {E : Nat} {oy ok : Option Nat} {or : Option (Nat × Value × Value)} {W : World} (h : Iv w E oy ok or W) (o : Obj) : Iv w E oy ok or (W.alloc o) := h.past ((Below.refl W.heap.size W).alloc (Nat.le_refl _) o) rfl rfl rfl rfl
theorem Iv.gy {w : World} {E b : Nat} {ok : Option Nat} {or : Option (Nat × Value × Value)} {W : World} (h : Iv w E none ok or W) (hb : rowAt W b = some #[.bool false, .bool false, .bool false]) (hz : w.heap.size ≤ b) : Iv w E (some b) ok or W := ⟨h.e, fun c hc => by injection hc with hc; rw [← hc]; exact ⟨hb, hz⟩, h.k, h.r, h.b⟩
theorem Iv.gk {w : World} {E b : Nat} {oy : Option Nat} {or : Option (Nat × Value × Value)} {W : World} (h : Iv w E oy none or W) (hb : rowAt W b = some #[.int .i64 0, .int .i64 0, .int .i64 0, .int .i64 0, .int .i64 0, .int .i64 0, .int .i64 0, .int .i64 0, .int .i64 0, .int .i64 0, .int .i64 0, .int .i64 0]) (hz : w.heap.size ≤ b) : Iv w E oy (some b) or W := ⟨h.e, h.y, fun c hc => by injection hc with hc; rw [← hc]; exact ⟨hb, hz⟩, h.r, h.b⟩
theorem Iv.gr {w : World} {E : Nat} {oy ok : Option Nat} {t : Nat × Value × Value} {W : World} (h : Iv w E oy ok none W) (hb : rowAt W t.1 = some #[t.2.1, t.2.2, .slice none 0 0, .slice none 0 0] ∧ LstF (t.1 + 1) W t.2.1 [0, 2] ∧ LstF (t.1 + 1) W t.2.2 [1]) : Iv w E oy ok (some t) W := ⟨h.e, h.y, h.k, fun c hc => by injection hc with hc; rw [← hc]; exact hb, h.b⟩
theorem lst_parts {b : Nat} {w : World} {v : Value} {xs : List Int} (h : LstF b w v xs) (hx : xs ≠ []) : ∃ g p, v = .slice (some ⟨g, 0, none⟩) xs.length p ∧ xs.length ≤ p ∧ g < w.heap.size ∧ b ≤ g ∧ ∀ j x, xs[j]? = some x → w.cell? ⟨g, j, none⟩ = some (.int .i64 x) := by
  obtain ⟨h, _⟩ := h
  have h2 := h.2
  rcases h2 with ⟨hv, e⟩ | ⟨g, cap, cur, hv, hB, hh, hle, hle2, hr⟩
  · exact absurd (by simpa using e) hx
  · subst hv
    have hl := (h.lt g rfl).2
    refine ⟨g, cap, rfl, by omega, hl, hB, fun j x hj => ?_⟩
    have hjl : j < xs.length := (List.getElem?_eq_some_iff.1 hj).1
    rw [h.cellAt j (by omega), List.getElem?_map, hj]
    rfl
theorem row_ne {W : World} {a b : Nat} {A B : Array Value} (h : rowAt W a = some A) (h' : rowAt W b = some B) (hs : A.size ≠ B.size) : a ≠ b := by
  rintro rfl
  exact hs (congrArg Array.size (Option.some.inj (h.symm.trans h')))
theorem cell_ne {W : World} {a b j : Nat} {u v : Value} (h : W.cell? ⟨a, j, none⟩ = some u) (h' : W.cell? ⟨b, j, none⟩ = some v) (hs : u ≠ v) : a ≠ b := by
  rintro rfl
  exact hs (Option.some.inj (h.symm.trans h'))
structure Lp (w : World) (E y R S k g0 p0 g1 p1 : Nat) (YA SA : Array Value) (W : World) : Prop where
  e : rowAt W E = some evs
  yy : rowAt W y = some YA
  rr : rowAt W R = some #[.slice (some ⟨g0, 0, none⟩) 2 p0, .slice (some ⟨g1, 0, none⟩) 1 p1, .slice none 0 0, .slice none 0 0]
  a0 : W.cell? ⟨g0, 0, none⟩ = some (.int .i64 0)
  a1 : W.cell? ⟨g0, 1, none⟩ = some (.int .i64 2)
  b0 : W.cell? ⟨g1, 0, none⟩ = some (.int .i64 1)
  st : rowAt W S = some SA
  ka : rowAt W k = some #[.int .i64 0, .int .i64 0, .int .i64 0, .int .i64 0, .int .i64 0, .int .i64 0, .int .i64 0, .int .i64 0, .int .i64 0, .int .i64 0, .int .i64 0, .int .i64 0]
  b : Below w.heap.size w W
  k0 : g0 < W.heap.size
  k1 : g1 < W.heap.size
theorem Lp.past {w : World} {E y R S k g0 p0 g1 p1 : Nat} {YA SA : Array Value} {W V w' : World} (h : Lp w E y R S k g0 p0 g1 p1 YA SA W) (hb : Below V.heap.size V w') (he : V.heap = W.heap) (ho : V.os = W.os) (ht : V.tape = W.tape) (hp : V.output = W.output) : Lp w E y R S k g0 p0 g1 p1 YA SA w' := by
  have q : ∀ c i, c < W.heap.size → w'.cell? ⟨c, i, none⟩ = W.cell? ⟨c, i, none⟩ := fun c i hc => by
    have : c < V.heap.size := by rw [he]; exact hc
    rw [hb.cell (p := ⟨c, i, none⟩) this]
    unfold World.cell?
    rw [he]
  have hs := hb.size
  rw [he] at hs
  exact ⟨rowAt_below h.e hb he, rowAt_below h.yy hb he, rowAt_below h.rr hb he, (q _ _ h.k0).trans h.a0, (q _ _ h.k0).trans h.a1, (q _ _ h.k1).trans h.b0, rowAt_below h.st hb he, rowAt_below h.ka hb he, below_step h.b hb he ho ht hp, Nat.lt_of_lt_of_le h.k0 hs, Nat.lt_of_lt_of_le h.k1 hs⟩
theorem Lp.sety {w : World} {E y R S k g0 p0 g1 p1 i : Nat} {v : Value} {YA YA' SA : Array Value} {W : World} (h : Lp w E y R S k g0 p0 g1 p1 YA SA W) (hy : w.heap.size ≤ y) (n1 : E ≠ y) (n2 : R ≠ y) (n3 : S ≠ y) (n4 : k ≠ y) (n5 : g0 ≠ y) (n6 : g1 ≠ y) (hr : YA.setIfInBounds i v = YA') : Lp w E y R S k g0 p0 g1 p1 YA' SA (W.setCell ⟨y, i, none⟩ v) := by
  have hg := grown_set W ⟨y, i, none⟩ v
  have q : ∀ g j, g < W.heap.size → g ≠ y → (W.setCell ⟨y, i, none⟩ v).cell? ⟨g, j, none⟩ = W.cell? ⟨g, j, none⟩ := fun g j hl hne => by
    have h := hg.block g hl (fun e => by injection e with e; exact hne (by first | exact e | exact e.symm))
    unfold World.cell?
    rw [h]
  exact ⟨rowAt_grown h.e hg n1, hr ▸ rowAt_set h.yy i v, rowAt_grown h.rr hg n2, (q _ _ h.k0 n5).trans h.a0, (q _ _ h.k0 n5).trans h.a1, (q _ _ h.k1 n6).trans h.b0, rowAt_grown h.st hg n3, rowAt_grown h.ka hg n4, grown_below h.b hg hy, Nat.lt_of_lt_of_le h.k0 hg.size, Nat.lt_of_lt_of_le h.k1 hg.size⟩
structure CutS (w : World) (E : Nat) (s : Value) (W : World) : Prop where
  ex : ∃ S y k R v0 v1 m1 m2, s = .pointer (some ⟨S, 0, none⟩) ∧ Iv w E (some y) (some k) (some (R, v0, v1)) W ∧ w.heap.size ≤ S ∧ rowAt W S = some (#[.slice (some ⟨E, 0, none⟩) 3 3, .slice (some ⟨y, 0, none⟩) 3 3, .slice (some ⟨R, 0, none⟩) 4 4] ++ Array.replicate 36 (.int .i64 0) ++ #[m1, m2, .slice (some ⟨k, 0, none⟩) 3 3]) ∧ y < S ∧ k < S ∧ R < S ∧ (∀ g, v0.ownBlock = some g → g < S) ∧ (∀ g, v1.ownBlock = some g → g < S)
theorem m3 (w : World) (E : Nat) {Q : Prop} {F : World → Nat → Prop} (main : Hid (∀ (u : World) (yb : Nat), Hid (Iv w E (some yb) none none u) → F u yb) → Q) (leaf : ∀ (u : World) (yb : Nat), Hid (Iv w E (some yb) none none u) → F u yb) : Q := main (Lib.hid leaf)
theorem m5 (w : World) (E : Nat) {Q : Prop} {F : World → Nat → Value → Value → Prop} (main : Hid (∀ (u : World) (rb : Nat) (v0 : Value) (v1 : Value), Hid (Iv w E none none (some (rb, v0, v1)) u) → F u rb v0 v1) → Q) (leaf : ∀ (u : World) (rb : Nat) (v0 : Value) (v1 : Value), Hid (Iv w E none none (some (rb, v0, v1)) u) → F u rb v0 v1) : Q := main (Lib.hid leaf)
theorem m6 (w : World) (E : Nat) {Q : Prop} {F : World → Nat → Prop} (main : Hid (∀ (u : World) (m6 : Nat), Hid (Iv w E none none none u) → F u m6) → Q) (leaf : ∀ (u : World) (m6 : Nat), Hid (Iv w E none none none u) → F u m6) : Q := main (Lib.hid leaf)
theorem m7 (w : World) (E : Nat) {Q : Prop} {F : World → Nat → Prop} (main : Hid (∀ (u : World) (m7 : Nat), Hid (Iv w E none none none u) → F u m7) → Q) (leaf : ∀ (u : World) (m7 : Nat), Hid (Iv w E none none none u) → F u m7) : Q := main (Lib.hid leaf)
theorem m10 (w : World) (E : Nat) {Q : Prop} {F : World → Nat → Prop} (main : Hid (∀ (u : World) (kb : Nat), Hid (Iv w E none (some kb) none u) → F u kb) → Q) (leaf : ∀ (u : World) (kb : Nat), Hid (Iv w E none (some kb) none u) → F u kb) : Q := main (Lib.hid leaf)
theorem m3_5 (w : World) (E : Nat) {Q : Prop} {F : World → Nat → Nat → Value → Value → Prop} (main : Hid (∀ (u : World) (yb : Nat) (rb : Nat) (v0 : Value) (v1 : Value), Hid (Iv w E (some yb) none (some (rb, v0, v1)) u) → F u yb rb v0 v1) → Q) (leaf : ∀ (u : World) (yb : Nat) (rb : Nat) (v0 : Value) (v1 : Value), Hid (Iv w E (some yb) none (some (rb, v0, v1)) u) → F u yb rb v0 v1) : Q := main (Lib.hid leaf)
theorem m3_6 (w : World) (E : Nat) {Q : Prop} {F : World → Nat → Nat → Prop} (main : Hid (∀ (u : World) (yb : Nat) (m6 : Nat), Hid (Iv w E (some yb) none none u) → F u yb m6) → Q) (leaf : ∀ (u : World) (yb : Nat) (m6 : Nat), Hid (Iv w E (some yb) none none u) → F u yb m6) : Q := main (Lib.hid leaf)
theorem m3_7 (w : World) (E : Nat) {Q : Prop} {F : World → Nat → Nat → Prop} (main : Hid (∀ (u : World) (yb : Nat) (m7 : Nat), Hid (Iv w E (some yb) none none u) → F u yb m7) → Q) (leaf : ∀ (u : World) (yb : Nat) (m7 : Nat), Hid (Iv w E (some yb) none none u) → F u yb m7) : Q := main (Lib.hid leaf)
theorem m3_10 (w : World) (E : Nat) {Q : Prop} {F : World → Nat → Nat → Prop} (main : Hid (∀ (u : World) (yb : Nat) (kb : Nat), Hid (Iv w E (some yb) (some kb) none u) → F u yb kb) → Q) (leaf : ∀ (u : World) (yb : Nat) (kb : Nat), Hid (Iv w E (some yb) (some kb) none u) → F u yb kb) : Q := main (Lib.hid leaf)
theorem m5_6 (w : World) (E : Nat) {Q : Prop} {F : World → Nat → Value → Value → Nat → Prop} (main : Hid (∀ (u : World) (rb : Nat) (v0 : Value) (v1 : Value) (m6 : Nat), Hid (Iv w E none none (some (rb, v0, v1)) u) → F u rb v0 v1 m6) → Q) (leaf : ∀ (u : World) (rb : Nat) (v0 : Value) (v1 : Value) (m6 : Nat), Hid (Iv w E none none (some (rb, v0, v1)) u) → F u rb v0 v1 m6) : Q := main (Lib.hid leaf)
theorem m5_7 (w : World) (E : Nat) {Q : Prop} {F : World → Nat → Value → Value → Nat → Prop} (main : Hid (∀ (u : World) (rb : Nat) (v0 : Value) (v1 : Value) (m7 : Nat), Hid (Iv w E none none (some (rb, v0, v1)) u) → F u rb v0 v1 m7) → Q) (leaf : ∀ (u : World) (rb : Nat) (v0 : Value) (v1 : Value) (m7 : Nat), Hid (Iv w E none none (some (rb, v0, v1)) u) → F u rb v0 v1 m7) : Q := main (Lib.hid leaf)
theorem m5_10 (w : World) (E : Nat) {Q : Prop} {F : World → Nat → Nat → Value → Value → Prop} (main : Hid (∀ (u : World) (kb : Nat) (rb : Nat) (v0 : Value) (v1 : Value), Hid (Iv w E none (some kb) (some (rb, v0, v1)) u) → F u kb rb v0 v1) → Q) (leaf : ∀ (u : World) (kb : Nat) (rb : Nat) (v0 : Value) (v1 : Value), Hid (Iv w E none (some kb) (some (rb, v0, v1)) u) → F u kb rb v0 v1) : Q := main (Lib.hid leaf)
theorem m6_7 (w : World) (E : Nat) {Q : Prop} {F : World → Nat → Nat → Prop} (main : Hid (∀ (u : World) (m6 : Nat) (m7 : Nat), Hid (Iv w E none none none u) → F u m6 m7) → Q) (leaf : ∀ (u : World) (m6 : Nat) (m7 : Nat), Hid (Iv w E none none none u) → F u m6 m7) : Q := main (Lib.hid leaf)
theorem m6_10 (w : World) (E : Nat) {Q : Prop} {F : World → Nat → Nat → Prop} (main : Hid (∀ (u : World) (kb : Nat) (m6 : Nat), Hid (Iv w E none (some kb) none u) → F u kb m6) → Q) (leaf : ∀ (u : World) (kb : Nat) (m6 : Nat), Hid (Iv w E none (some kb) none u) → F u kb m6) : Q := main (Lib.hid leaf)
theorem m7_10 (w : World) (E : Nat) {Q : Prop} {F : World → Nat → Nat → Prop} (main : Hid (∀ (u : World) (kb : Nat) (m7 : Nat), Hid (Iv w E none (some kb) none u) → F u kb m7) → Q) (leaf : ∀ (u : World) (kb : Nat) (m7 : Nat), Hid (Iv w E none (some kb) none u) → F u kb m7) : Q := main (Lib.hid leaf)
theorem m3_5_6 (w : World) (E : Nat) {Q : Prop} {F : World → Nat → Nat → Value → Value → Nat → Prop} (main : Hid (∀ (u : World) (yb : Nat) (rb : Nat) (v0 : Value) (v1 : Value) (m6 : Nat), Hid (Iv w E (some yb) none (some (rb, v0, v1)) u) → F u yb rb v0 v1 m6) → Q) (leaf : ∀ (u : World) (yb : Nat) (rb : Nat) (v0 : Value) (v1 : Value) (m6 : Nat), Hid (Iv w E (some yb) none (some (rb, v0, v1)) u) → F u yb rb v0 v1 m6) : Q := main (Lib.hid leaf)
theorem m3_5_7 (w : World) (E : Nat) {Q : Prop} {F : World → Nat → Nat → Value → Value → Nat → Prop} (main : Hid (∀ (u : World) (yb : Nat) (rb : Nat) (v0 : Value) (v1 : Value) (m7 : Nat), Hid (Iv w E (some yb) none (some (rb, v0, v1)) u) → F u yb rb v0 v1 m7) → Q) (leaf : ∀ (u : World) (yb : Nat) (rb : Nat) (v0 : Value) (v1 : Value) (m7 : Nat), Hid (Iv w E (some yb) none (some (rb, v0, v1)) u) → F u yb rb v0 v1 m7) : Q := main (Lib.hid leaf)
theorem m3_5_10 (w : World) (E : Nat) {Q : Prop} {F : World → Nat → Nat → Nat → Value → Value → Prop} (main : Hid (∀ (u : World) (yb : Nat) (kb : Nat) (rb : Nat) (v0 : Value) (v1 : Value), Hid (Iv w E (some yb) (some kb) (some (rb, v0, v1)) u) → F u yb kb rb v0 v1) → Q) (leaf : ∀ (u : World) (yb : Nat) (kb : Nat) (rb : Nat) (v0 : Value) (v1 : Value), Hid (Iv w E (some yb) (some kb) (some (rb, v0, v1)) u) → F u yb kb rb v0 v1) : Q := main (Lib.hid leaf)
theorem m3_6_7 (w : World) (E : Nat) {Q : Prop} {F : World → Nat → Nat → Nat → Prop} (main : Hid (∀ (u : World) (yb : Nat) (m6 : Nat) (m7 : Nat), Hid (Iv w E (some yb) none none u) → F u yb m6 m7) → Q) (leaf : ∀ (u : World) (yb : Nat) (m6 : Nat) (m7 : Nat), Hid (Iv w E (some yb) none none u) → F u yb m6 m7) : Q := main (Lib.hid leaf)
theorem m3_6_10 (w : World) (E : Nat) {Q : Prop} {F : World → Nat → Nat → Nat → Prop} (main : Hid (∀ (u : World) (yb : Nat) (kb : Nat) (m6 : Nat), Hid (Iv w E (some yb) (some kb) none u) → F u yb kb m6) → Q) (leaf : ∀ (u : World) (yb : Nat) (kb : Nat) (m6 : Nat), Hid (Iv w E (some yb) (some kb) none u) → F u yb kb m6) : Q := main (Lib.hid leaf)
theorem m3_7_10 (w : World) (E : Nat) {Q : Prop} {F : World → Nat → Nat → Nat → Prop} (main : Hid (∀ (u : World) (yb : Nat) (kb : Nat) (m7 : Nat), Hid (Iv w E (some yb) (some kb) none u) → F u yb kb m7) → Q) (leaf : ∀ (u : World) (yb : Nat) (kb : Nat) (m7 : Nat), Hid (Iv w E (some yb) (some kb) none u) → F u yb kb m7) : Q := main (Lib.hid leaf)
theorem m5_6_7 (w : World) (E : Nat) {Q : Prop} {F : World → Nat → Value → Value → Nat → Nat → Prop} (main : Hid (∀ (u : World) (rb : Nat) (v0 : Value) (v1 : Value) (m6 : Nat) (m7 : Nat), Hid (Iv w E none none (some (rb, v0, v1)) u) → F u rb v0 v1 m6 m7) → Q) (leaf : ∀ (u : World) (rb : Nat) (v0 : Value) (v1 : Value) (m6 : Nat) (m7 : Nat), Hid (Iv w E none none (some (rb, v0, v1)) u) → F u rb v0 v1 m6 m7) : Q := main (Lib.hid leaf)
theorem m5_6_10 (w : World) (E : Nat) {Q : Prop} {F : World → Nat → Nat → Value → Value → Nat → Prop} (main : Hid (∀ (u : World) (kb : Nat) (rb : Nat) (v0 : Value) (v1 : Value) (m6 : Nat), Hid (Iv w E none (some kb) (some (rb, v0, v1)) u) → F u kb rb v0 v1 m6) → Q) (leaf : ∀ (u : World) (kb : Nat) (rb : Nat) (v0 : Value) (v1 : Value) (m6 : Nat), Hid (Iv w E none (some kb) (some (rb, v0, v1)) u) → F u kb rb v0 v1 m6) : Q := main (Lib.hid leaf)
theorem m5_7_10 (w : World) (E : Nat) {Q : Prop} {F : World → Nat → Nat → Value → Value → Nat → Prop} (main : Hid (∀ (u : World) (kb : Nat) (rb : Nat) (v0 : Value) (v1 : Value) (m7 : Nat), Hid (Iv w E none (some kb) (some (rb, v0, v1)) u) → F u kb rb v0 v1 m7) → Q) (leaf : ∀ (u : World) (kb : Nat) (rb : Nat) (v0 : Value) (v1 : Value) (m7 : Nat), Hid (Iv w E none (some kb) (some (rb, v0, v1)) u) → F u kb rb v0 v1 m7) : Q := main (Lib.hid leaf)
theorem m6_7_10 (w : World) (E : Nat) {Q : Prop} {F : World → Nat → Nat → Nat → Prop} (main : Hid (∀ (u : World) (kb : Nat) (m6 : Nat) (m7 : Nat), Hid (Iv w E none (some kb) none u) → F u kb m6 m7) → Q) (leaf : ∀ (u : World) (kb : Nat) (m6 : Nat) (m7 : Nat), Hid (Iv w E none (some kb) none u) → F u kb m6 m7) : Q := main (Lib.hid leaf)
theorem m3_5_6_7 (w : World) (E : Nat) {Q : Prop} {F : World → Nat → Nat → Value → Value → Nat → Nat → Prop} (main : Hid (∀ (u : World) (yb : Nat) (rb : Nat) (v0 : Value) (v1 : Value) (m6 : Nat) (m7 : Nat), Hid (Iv w E (some yb) none (some (rb, v0, v1)) u) → F u yb rb v0 v1 m6 m7) → Q) (leaf : ∀ (u : World) (yb : Nat) (rb : Nat) (v0 : Value) (v1 : Value) (m6 : Nat) (m7 : Nat), Hid (Iv w E (some yb) none (some (rb, v0, v1)) u) → F u yb rb v0 v1 m6 m7) : Q := main (Lib.hid leaf)
theorem m3_5_6_10 (w : World) (E : Nat) {Q : Prop} {F : World → Nat → Nat → Nat → Value → Value → Nat → Prop} (main : Hid (∀ (u : World) (yb : Nat) (kb : Nat) (rb : Nat) (v0 : Value) (v1 : Value) (m6 : Nat), Hid (Iv w E (some yb) (some kb) (some (rb, v0, v1)) u) → F u yb kb rb v0 v1 m6) → Q) (leaf : ∀ (u : World) (yb : Nat) (kb : Nat) (rb : Nat) (v0 : Value) (v1 : Value) (m6 : Nat), Hid (Iv w E (some yb) (some kb) (some (rb, v0, v1)) u) → F u yb kb rb v0 v1 m6) : Q := main (Lib.hid leaf)
theorem m3_5_7_10 (w : World) (E : Nat) {Q : Prop} {F : World → Nat → Nat → Nat → Value → Value → Nat → Prop} (main : Hid (∀ (u : World) (yb : Nat) (kb : Nat) (rb : Nat) (v0 : Value) (v1 : Value) (m7 : Nat), Hid (Iv w E (some yb) (some kb) (some (rb, v0, v1)) u) → F u yb kb rb v0 v1 m7) → Q) (leaf : ∀ (u : World) (yb : Nat) (kb : Nat) (rb : Nat) (v0 : Value) (v1 : Value) (m7 : Nat), Hid (Iv w E (some yb) (some kb) (some (rb, v0, v1)) u) → F u yb kb rb v0 v1 m7) : Q := main (Lib.hid leaf)
theorem m3_6_7_10 (w : World) (E : Nat) {Q : Prop} {F : World → Nat → Nat → Nat → Nat → Prop} (main : Hid (∀ (u : World) (yb : Nat) (kb : Nat) (m6 : Nat) (m7 : Nat), Hid (Iv w E (some yb) (some kb) none u) → F u yb kb m6 m7) → Q) (leaf : ∀ (u : World) (yb : Nat) (kb : Nat) (m6 : Nat) (m7 : Nat), Hid (Iv w E (some yb) (some kb) none u) → F u yb kb m6 m7) : Q := main (Lib.hid leaf)
theorem m5_6_7_10 (w : World) (E : Nat) {Q : Prop} {F : World → Nat → Nat → Value → Value → Nat → Nat → Prop} (main : Hid (∀ (u : World) (kb : Nat) (rb : Nat) (v0 : Value) (v1 : Value) (m6 : Nat) (m7 : Nat), Hid (Iv w E none (some kb) (some (rb, v0, v1)) u) → F u kb rb v0 v1 m6 m7) → Q) (leaf : ∀ (u : World) (kb : Nat) (rb : Nat) (v0 : Value) (v1 : Value) (m6 : Nat) (m7 : Nat), Hid (Iv w E none (some kb) (some (rb, v0, v1)) u) → F u kb rb v0 v1 m6 m7) : Q := main (Lib.hid leaf)
theorem m3_5_6_7_10 (w : World) (E : Nat) {Q : Prop} {F : World → Nat → Nat → Nat → Value → Value → Nat → Nat → Prop} (main : Hid (∀ (u : World) (yb : Nat) (kb : Nat) (rb : Nat) (v0 : Value) (v1 : Value) (m6 : Nat) (m7 : Nat), Hid (Iv w E (some yb) (some kb) (some (rb, v0, v1)) u) → F u yb kb rb v0 v1 m6 m7) → Q) (leaf : ∀ (u : World) (yb : Nat) (kb : Nat) (rb : Nat) (v0 : Value) (v1 : Value) (m6 : Nat) (m7 : Nat), Hid (Iv w E (some yb) (some kb) (some (rb, v0, v1)) u) → F u yb kb rb v0 v1 m6 m7) : Q := main (Lib.hid leaf)
set_option maxRecDepth 100000 in
set_option maxHeartbeats 8000000 in
theorem stampF (E : Nat) (f : Value) (w : World) (hE : rowAt w E = some evs) : Calls Try.prog 16 #[.slice (some ⟨E, 0, none⟩) 3 3, f] w fun e w' => ∃ k, e = .returned (.tuple #[.slice (some ⟨k, 0, none⟩) 3 3, .int .i64 0]) ∧ rowAt w' k = some #[.int .i64 1, .int .i64 0, .int .i64 0, .int .i64 0, .int .i64 1, .int .i64 1, .int .i64 0, .int .i64 0, .int .i64 2, .int .i64 0, .int .i64 0, .int .i64 0] ∧ Below w.heap.size w w' := by
  have hm3 : ∀ w, (Instr.makeSlice 51 (.int .i64 3) (.int .i64 3)).run Try.prog w = .ok (.slice (some ⟨w.heap.size, 0, none⟩) 3 3) (w.alloc (.cells #[.bool false, .bool false, .bool false] 4)) := fun _ => by kernel_rfl
  have hm10 : ∀ w, (Instr.makeSlice 37 (.int .i64 3) (.int .i64 3)).run Try.prog w = .ok (.slice (some ⟨w.heap.size, 0, none⟩) 3 3) (w.alloc (.cells #[.int .i64 0, .int .i64 0, .int .i64 0, .int .i64 0, .int .i64 0, .int .i64 0, .int .i64 0, .int .i64 0, .int .i64 0, .int .i64 0, .int .i64 0, .int .i64 0] 24)) := fun _ => by kernel_rfl
  have hmm := @run_makeMap Try.prog
  have HE := Lib.hid hE
  go_enter Try.func16, Try.ntmps16
  go_wp2_with fail
  refine (contains_e E _ HE.out).mono ?_
  rintro e w1 ⟨rfl, hb⟩
  have HI : Hid (Iv w E none none none w1) := Lib.hid ⟨rowAt_below HE.out hb rfl, (fun _ h => nomatch h), (fun _ h => nomatch h), (fun _ h => nomatch h), hb⟩
  clear hb
  go_upto_region 3 with (fail)
  clear hE HE
  go_cut [6] from 14 to 28 (fun s wx => CutS w E s wx)
  case first =>
    go_wp2
    refine wp_region_held_drew (S := (fun w' => True)) (by kernel_rfl) trivial (fun hHeld => ?_)
    replace HI := Lib.hid (HI.out.past (Below.refl w1.heap.size w1).drew rfl rfl rfl rfl)
    generalize w1.drew = u at HI ⊢
    refine wpAnyH_take (i := 0) (oi := { dst := some 16, op := Op.move (Operand.tmp 0), type := 36, pos := "stamp.go:32", after := #[], guard := none }) (v := ?_) rfl (by kernel_rfl) (by kernel_rfl) (by kernel_rfl) (fun _ _ _ h => h) (Or.inl ⟨by rfl, ?_⟩) (by assumption) ?_
    rotate_left
    · (intro w9 hSw; (try dsimp only at hSw); go_split_ands; go_simp; with_reducible rfl)
    try simp only [Act.put, List.setIfInBounds_toArray, List.set_cons_zero, List.set_cons_succ]
    refine wpAnyH_take (i := 1) (oi := { dst := some 17, op := Op.move (Operand.tmp 0), type := 36, pos := "stamp.go:32", after := #[], guard := none }) (v := ?_) rfl (by kernel_rfl) (by kernel_rfl) (by kernel_rfl) (fun _ _ _ h => h) (Or.inl ⟨by rfl, ?_⟩) (by assumption) ?_
    rotate_left
    · (intro w9 hSw; (try dsimp only at hSw); go_split_ands; go_simp; with_reducible rfl)
    try simp only [Act.put, List.setIfInBounds_toArray, List.set_cons_zero, List.set_cons_succ]
    refine wpAnyH_take (i := 4) (oi := { dst := some 20, op := Op.move (Operand.tmp 0), type := 36, pos := "stamp.go:32", after := #[], guard := none }) (v := ?_) rfl (by kernel_rfl) (by kernel_rfl) (by kernel_rfl) (fun _ _ _ h => h) (Or.inl ⟨by rfl, ?_⟩) (by assumption) ?_
    rotate_left
    · (intro w9 hSw; (try dsimp only at hSw); go_split_ands; go_simp; with_reducible rfl)
    try simp only [Act.put, List.setIfInBounds_toArray, List.set_cons_zero, List.set_cons_succ]
    refine wpAnyH_take (i := 8) (oi := { dst := some 24, op := Op.move (Operand.tmp 0), type := 36, pos := "stamp.go:32", after := #[], guard := none }) (v := ?_) rfl (by kernel_rfl) (by kernel_rfl) (by kernel_rfl) (fun _ _ _ h => h) (Or.inl ⟨by rfl, ?_⟩) (by assumption) ?_
    rotate_left
    · (intro w9 hSw; (try dsimp only at hSw); go_split_ands; go_simp; with_reducible rfl)
    try simp only [Act.put, List.setIfInBounds_toArray, List.set_cons_zero, List.set_cons_succ]
    refine wpAnyH_take (i := 2) (oi := { dst := some 18, op := Op.call { callee := Callee.builtin Builtin.len, args := #[Operand.tmp 17], argTypes := #[36] }, type := 3, pos := "stamp.go:32", after := #[{ on := 1, ground := Ground.data }], guard := none }) (v := ?_) rfl (by kernel_rfl) (by kernel_rfl) (by kernel_rfl) (fun _ _ _ h => h) (Or.inl ⟨by rfl, ?_⟩) (by assumption) ?_
    rotate_left
    · (intro w9 hSw; (try dsimp only at hSw); go_split_ands; go_simp; with_reducible rfl)
    try simp only [Act.put, List.setIfInBounds_toArray, List.set_cons_zero, List.set_cons_succ]
    refine wpAnyH_take (i := 9) (oi := { dst := some 25, op := Op.call { callee := Callee.builtin Builtin.len, args := #[Operand.tmp 24], argTypes := #[36] }, type := 3, pos := "stamp.go:32", after := #[{ on := 8, ground := Ground.data }], guard := none }) (v := ?_) rfl (by kernel_rfl) (by kernel_rfl) (by kernel_rfl) (fun _ _ _ h => h) (Or.inl ⟨by rfl, ?_⟩) (by assumption) ?_
    rotate_left
    · (intro w9 hSw; (try dsimp only at hSw); go_split_ands; go_simp; with_reducible rfl)
    try simp only [Act.put, List.setIfInBounds_toArray, List.set_cons_zero, List.set_cons_succ]
    apply m3_5_6_7_10 w E
    · intro H_m3_5_6_7_10
      apply m3_5_6_7 w E
      · intro H_m3_5_6_7
        apply m3_5_6_10 w E
        · intro H_m3_5_6_10
          apply m3_5_7_10 w E
          · intro H_m3_5_7_10
            apply m3_6_7_10 w E
            · intro H_m3_6_7_10
              apply m5_6_7_10 w E
              · intro H_m5_6_7_10
                apply m3_5_6 w E
                · intro H_m3_5_6
                  apply m3_5_7 w E
                  · intro H_m3_5_7
                    apply m3_5_10 w E
                    · intro H_m3_5_10
                      apply m3_6_7 w E
                      · intro H_m3_6_7
                        apply m3_6_10 w E
                        · intro H_m3_6_10
                          apply m3_7_10 w E
                          · intro H_m3_7_10
                            apply m5_6_7 w E
                            · intro H_m5_6_7
                              apply m5_6_10 w E
                              · intro H_m5_6_10
                                apply m5_7_10 w E
                                · intro H_m5_7_10
                                  apply m6_7_10 w E
                                  · intro H_m6_7_10
                                    apply m3_5 w E
                                    · intro H_m3_5
                                      apply m3_6 w E
                                      · intro H_m3_6
                                        apply m3_7 w E
                                        · intro H_m3_7
                                          apply m3_10 w E
                                          · intro H_m3_10
                                            apply m5_6 w E
                                            · intro H_m5_6
                                              apply m5_7 w E
                                              · intro H_m5_7
                                                apply m5_10 w E
                                                · intro H_m5_10
                                                  apply m6_7 w E
                                                  · intro H_m6_7
                                                    apply m6_10 w E
                                                    · intro H_m6_10
                                                      apply m7_10 w E
                                                      · intro H_m7_10
                                                        apply m3 w E
                                                        · intro H_m3
                                                          apply m5 w E
                                                          · intro H_m5
                                                            apply m6 w E
                                                            · intro H_m6
                                                              apply m7 w E
                                                              · intro H_m7
                                                                apply m10 w E
                                                                · intro H_m10
                                                                  refine wpAnyH_ready (rs := [3, 5, 6, 7, 10]) (by kernel_rfl) (by simp) ?_
                                                                  refine AllReadyH.cons (o := { dst := some 19, op := Op.makeSlice 51 (Operand.tmp 18) (Operand.tmp 18), type := 51, pos := "stamp.go:32", after := #[{ on := 2, ground := Ground.data }, { on := 2, ground := Ground.data }], guard := none }) rfl (fun K' hK => ?_) (AllReadyH.cons (o := { dst := some 21, op := Op.call { callee := Callee.value (Operand.func 24), args := #[Operand.tmp 20, Operand.const (Value.int IntKind.i64 4), Operand.func 25], argTypes := #[36, 3, 54] }, type := 52, pos := "stamp.go:35", after := #[{ on := 4, ground := Ground.data }], guard := none }) rfl (fun K' hK => ?_) (AllReadyH.cons (o := { dst := some 22, op := Op.makeMap 55 none, type := 55, pos := "stamp.go:32", after := #[], guard := none }) rfl (fun K' hK => ?_) (AllReadyH.cons (o := { dst := some 23, op := Op.makeMap 56 none, type := 56, pos := "stamp.go:32", after := #[], guard := none }) rfl (fun K' hK => ?_) (AllReadyH.cons (o := { dst := some 26, op := Op.makeSlice 37 (Operand.tmp 25) (Operand.tmp 25), type := 37, pos := "stamp.go:32", after := #[{ on := 9, ground := Ground.data }, { on := 9, ground := Ground.data }], guard := none }) rfl (fun K' hK => ?_) AllReadyH.nil))))
                                                                  · go_simp
                                                                    replace HI := Lib.hid ((HI.out.al (.cells #[.bool false, .bool false, .bool false] 4)).gy (rowAt_new _ _ _) HI.out.b.size)
                                                                    refine hK.out _ _ trivial (fun hHeld => ?_)
                                                                    clear hHeld hK K'
                                                                    try simp only [Act.put, List.setIfInBounds_toArray, List.set_cons_zero, List.set_cons_succ]
                                                                    generalize (u.alloc (.cells #[.bool false, .bool false, .bool false] 4)) = v at HI ⊢
                                                                    generalize u.heap.size = yb at HI ⊢
                                                                    exact H_m3.out v yb HI
                                                                  · go_simp
                                                                    go_at_call 24
                                                                    refine (split_c E _ HI.out.e).mono ?_
                                                                    rintro e v ⟨rb, v0, v1, rfl, _, hr, hr0, hr1, hb⟩
                                                                    replace HI := Lib.hid ((HI.out.past hb rfl rfl rfl rfl).gr (t := (rb, v0, v1)) ⟨hr, hr0, hr1⟩)
                                                                    clear hr hr0 hr1 hb
                                                                    refine hK.out _ _ trivial (fun hHeld => ?_)
                                                                    clear hHeld hK K'
                                                                    try simp only [Act.put, List.setIfInBounds_toArray, List.set_cons_zero, List.set_cons_succ]
                                                                    exact H_m5.out v rb v0 v1 HI
                                                                  · go_simp
                                                                    replace HI := Lib.hid (HI.out.al (.map #[] 0))
                                                                    refine hK.out _ _ trivial (fun hHeld => ?_)
                                                                    clear hHeld hK K'
                                                                    try simp only [Act.put, List.setIfInBounds_toArray, List.set_cons_zero, List.set_cons_succ]
                                                                    generalize (u.alloc (.map #[] 0)) = v at HI ⊢
                                                                    generalize u.heap.size = m6
                                                                    exact H_m6.out v m6 HI
                                                                  · go_simp
                                                                    replace HI := Lib.hid (HI.out.al (.map #[] 0))
                                                                    refine hK.out _ _ trivial (fun hHeld => ?_)
                                                                    clear hHeld hK K'
                                                                    try simp only [Act.put, List.setIfInBounds_toArray, List.set_cons_zero, List.set_cons_succ]
                                                                    generalize (u.alloc (.map #[] 0)) = v at HI ⊢
                                                                    generalize u.heap.size = m7
                                                                    exact H_m7.out v m7 HI
                                                                  · go_simp
                                                                    replace HI := Lib.hid ((HI.out.al (.cells #[.int .i64 0, .int .i64 0, .int .i64 0, .int .i64 0, .int .i64 0, .int .i64 0, .int .i64 0, .int .i64 0, .int .i64 0, .int .i64 0, .int .i64 0, .int .i64 0] 24)).gk (rowAt_new _ _ _) HI.out.b.size)
                                                                    refine hK.out _ _ trivial (fun hHeld => ?_)
                                                                    clear hHeld hK K'
                                                                    try simp only [Act.put, List.setIfInBounds_toArray, List.set_cons_zero, List.set_cons_succ]
                                                                    generalize (u.alloc (.cells #[.int .i64 0, .int .i64 0, .int .i64 0, .int .i64 0, .int .i64 0, .int .i64 0, .int .i64 0, .int .i64 0, .int .i64 0, .int .i64 0, .int .i64 0, .int .i64 0] 24)) = v at HI ⊢
                                                                    generalize u.heap.size = kb at HI ⊢
                                                                    exact H_m10.out v kb HI
                                                                · intro u kb HI
                                                                  refine wpAnyH_ready (rs := [3, 5, 6, 7]) (by kernel_rfl) (by simp) ?_
                                                                  refine AllReadyH.cons (o := { dst := some 19, op := Op.makeSlice 51 (Operand.tmp 18) (Operand.tmp 18), type := 51, pos := "stamp.go:32", after := #[{ on := 2, ground := Ground.data }, { on := 2, ground := Ground.data }], guard := none }) rfl (fun K' hK => ?_) (AllReadyH.cons (o := { dst := some 21, op := Op.call { callee := Callee.value (Operand.func 24), args := #[Operand.tmp 20, Operand.const (Value.int IntKind.i64 4), Operand.func 25], argTypes := #[36, 3, 54] }, type := 52, pos := "stamp.go:35", after := #[{ on := 4, ground := Ground.data }], guard := none }) rfl (fun K' hK => ?_) (AllReadyH.cons (o := { dst := some 22, op := Op.makeMap 55 none, type := 55, pos := "stamp.go:32", after := #[], guard := none }) rfl (fun K' hK => ?_) (AllReadyH.cons (o := { dst := some 23, op := Op.makeMap 56 none, type := 56, pos := "stamp.go:32", after := #[], guard := none }) rfl (fun K' hK => ?_) AllReadyH.nil)))
                                                                  · go_simp
                                                                    replace HI := Lib.hid ((HI.out.al (.cells #[.bool false, .bool false, .bool false] 4)).gy (rowAt_new _ _ _) HI.out.b.size)
                                                                    refine hK.out _ _ trivial (fun hHeld => ?_)
                                                                    clear hHeld hK K'
                                                                    try simp only [Act.put, List.setIfInBounds_toArray, List.set_cons_zero, List.set_cons_succ]
                                                                    generalize (u.alloc (.cells #[.bool false, .bool false, .bool false] 4)) = v at HI ⊢
                                                                    generalize u.heap.size = yb at HI ⊢
                                                                    exact H_m3_10.out v yb kb HI
                                                                  · go_simp
                                                                    go_at_call 24
                                                                    refine (split_c E _ HI.out.e).mono ?_
                                                                    rintro e v ⟨rb, v0, v1, rfl, _, hr, hr0, hr1, hb⟩
                                                                    replace HI := Lib.hid ((HI.out.past hb rfl rfl rfl rfl).gr (t := (rb, v0, v1)) ⟨hr, hr0, hr1⟩)
                                                                    clear hr hr0 hr1 hb
                                                                    refine hK.out _ _ trivial (fun hHeld => ?_)
                                                                    clear hHeld hK K'
                                                                    try simp only [Act.put, List.setIfInBounds_toArray, List.set_cons_zero, List.set_cons_succ]
                                                                    exact H_m5_10.out v kb rb v0 v1 HI
                                                                  · go_simp
                                                                    replace HI := Lib.hid (HI.out.al (.map #[] 0))
                                                                    refine hK.out _ _ trivial (fun hHeld => ?_)
                                                                    clear hHeld hK K'
                                                                    try simp only [Act.put, List.setIfInBounds_toArray, List.set_cons_zero, List.set_cons_succ]
                                                                    generalize (u.alloc (.map #[] 0)) = v at HI ⊢
                                                                    generalize u.heap.size = m6
                                                                    exact H_m6_10.out v kb m6 HI
                                                                  · go_simp
                                                                    replace HI := Lib.hid (HI.out.al (.map #[] 0))
                                                                    refine hK.out _ _ trivial (fun hHeld => ?_)
                                                                    clear hHeld hK K'
                                                                    try simp only [Act.put, List.setIfInBounds_toArray, List.set_cons_zero, List.set_cons_succ]
                                                                    generalize (u.alloc (.map #[] 0)) = v at HI ⊢
                                                                    generalize u.heap.size = m7
                                                                    exact H_m7_10.out v kb m7 HI
                                                              · intro u m7 HI
                                                                refine wpAnyH_ready (rs := [3, 5, 6, 10]) (by kernel_rfl) (by simp) ?_
                                                                refine AllReadyH.cons (o := { dst := some 19, op := Op.makeSlice 51 (Operand.tmp 18) (Operand.tmp 18), type := 51, pos := "stamp.go:32", after := #[{ on := 2, ground := Ground.data }, { on := 2, ground := Ground.data }], guard := none }) rfl (fun K' hK => ?_) (AllReadyH.cons (o := { dst := some 21, op := Op.call { callee := Callee.value (Operand.func 24), args := #[Operand.tmp 20, Operand.const (Value.int IntKind.i64 4), Operand.func 25], argTypes := #[36, 3, 54] }, type := 52, pos := "stamp.go:35", after := #[{ on := 4, ground := Ground.data }], guard := none }) rfl (fun K' hK => ?_) (AllReadyH.cons (o := { dst := some 22, op := Op.makeMap 55 none, type := 55, pos := "stamp.go:32", after := #[], guard := none }) rfl (fun K' hK => ?_) (AllReadyH.cons (o := { dst := some 26, op := Op.makeSlice 37 (Operand.tmp 25) (Operand.tmp 25), type := 37, pos := "stamp.go:32", after := #[{ on := 9, ground := Ground.data }, { on := 9, ground := Ground.data }], guard := none }) rfl (fun K' hK => ?_) AllReadyH.nil)))
                                                                · go_simp
                                                                  replace HI := Lib.hid ((HI.out.al (.cells #[.bool false, .bool false, .bool false] 4)).gy (rowAt_new _ _ _) HI.out.b.size)
                                                                  refine hK.out _ _ trivial (fun hHeld => ?_)
                                                                  clear hHeld hK K'
                                                                  try simp only [Act.put, List.setIfInBounds_toArray, List.set_cons_zero, List.set_cons_succ]
                                                                  generalize (u.alloc (.cells #[.bool false, .bool false, .bool false] 4)) = v at HI ⊢
                                                                  generalize u.heap.size = yb at HI ⊢
                                                                  exact H_m3_7.out v yb m7 HI
                                                                · go_simp
                                                                  go_at_call 24
                                                                  refine (split_c E _ HI.out.e).mono ?_
                                                                  rintro e v ⟨rb, v0, v1, rfl, _, hr, hr0, hr1, hb⟩
                                                                  replace HI := Lib.hid ((HI.out.past hb rfl rfl rfl rfl).gr (t := (rb, v0, v1)) ⟨hr, hr0, hr1⟩)
                                                                  clear hr hr0 hr1 hb
                                                                  refine hK.out _ _ trivial (fun hHeld => ?_)
                                                                  clear hHeld hK K'
                                                                  try simp only [Act.put, List.setIfInBounds_toArray, List.set_cons_zero, List.set_cons_succ]
                                                                  exact H_m5_7.out v rb v0 v1 m7 HI
                                                                · go_simp
                                                                  replace HI := Lib.hid (HI.out.al (.map #[] 0))
                                                                  refine hK.out _ _ trivial (fun hHeld => ?_)
                                                                  clear hHeld hK K'
                                                                  try simp only [Act.put, List.setIfInBounds_toArray, List.set_cons_zero, List.set_cons_succ]
                                                                  generalize (u.alloc (.map #[] 0)) = v at HI ⊢
                                                                  generalize u.heap.size = m6
                                                                  exact H_m6_7.out v m6 m7 HI
                                                                · go_simp
                                                                  replace HI := Lib.hid ((HI.out.al (.cells #[.int .i64 0, .int .i64 0, .int .i64 0, .int .i64 0, .int .i64 0, .int .i64 0, .int .i64 0, .int .i64 0, .int .i64 0, .int .i64 0, .int .i64 0, .int .i64 0] 24)).gk (rowAt_new _ _ _) HI.out.b.size)
                                                                  refine hK.out _ _ trivial (fun hHeld => ?_)
                                                                  clear hHeld hK K'
                                                                  try simp only [Act.put, List.setIfInBounds_toArray, List.set_cons_zero, List.set_cons_succ]
                                                                  generalize (u.alloc (.cells #[.int .i64 0, .int .i64 0, .int .i64 0, .int .i64 0, .int .i64 0, .int .i64 0, .int .i64 0, .int .i64 0, .int .i64 0, .int .i64 0, .int .i64 0, .int .i64 0] 24)) = v at HI ⊢
                                                                  generalize u.heap.size = kb at HI ⊢
                                                                  exact H_m7_10.out v kb m7 HI
                                                            · intro u m6 HI
                                                              refine wpAnyH_ready (rs := [3, 5, 7, 10]) (by kernel_rfl) (by simp) ?_
                                                              refine AllReadyH.cons (o := { dst := some 19, op := Op.makeSlice 51 (Operand.tmp 18) (Operand.tmp 18), type := 51, pos := "stamp.go:32", after := #[{ on := 2, ground := Ground.data }, { on := 2, ground := Ground.data }], guard := none }) rfl (fun K' hK => ?_) (AllReadyH.cons (o := { dst := some 21, op := Op.call { callee := Callee.value (Operand.func 24), args := #[Operand.tmp 20, Operand.const (Value.int IntKind.i64 4), Operand.func 25], argTypes := #[36, 3, 54] }, type := 52, pos := "stamp.go:35", after := #[{ on := 4, ground := Ground.data }], guard := none }) rfl (fun K' hK => ?_) (AllReadyH.cons (o := { dst := some 23, op := Op.makeMap 56 none, type := 56, pos := "stamp.go:32", after := #[], guard := none }) rfl (fun K' hK => ?_) (AllReadyH.cons (o := { dst := some 26, op := Op.makeSlice 37 (Operand.tmp 25) (Operand.tmp 25), type := 37, pos := "stamp.go:32", after := #[{ on := 9, ground := Ground.data }, { on := 9, ground := Ground.data }], guard := none }) rfl (fun K' hK => ?_) AllReadyH.nil)))
                                                              · go_simp
                                                                replace HI := Lib.hid ((HI.out.al (.cells #[.bool false, .bool false, .bool false] 4)).gy (rowAt_new _ _ _) HI.out.b.size)
                                                                refine hK.out _ _ trivial (fun hHeld => ?_)
                                                                clear hHeld hK K'
                                                                try simp only [Act.put, List.setIfInBounds_toArray, List.set_cons_zero, List.set_cons_succ]
                                                                generalize (u.alloc (.cells #[.bool false, .bool false, .bool false] 4)) = v at HI ⊢
                                                                generalize u.heap.size = yb at HI ⊢
                                                                exact H_m3_6.out v yb m6 HI
                                                              · go_simp
                                                                go_at_call 24
                                                                refine (split_c E _ HI.out.e).mono ?_
                                                                rintro e v ⟨rb, v0, v1, rfl, _, hr, hr0, hr1, hb⟩
                                                                replace HI := Lib.hid ((HI.out.past hb rfl rfl rfl rfl).gr (t := (rb, v0, v1)) ⟨hr, hr0, hr1⟩)
                                                                clear hr hr0 hr1 hb
                                                                refine hK.out _ _ trivial (fun hHeld => ?_)
                                                                clear hHeld hK K'
                                                                try simp only [Act.put, List.setIfInBounds_toArray, List.set_cons_zero, List.set_cons_succ]
                                                                exact H_m5_6.out v rb v0 v1 m6 HI
                                                              · go_simp
                                                                replace HI := Lib.hid (HI.out.al (.map #[] 0))
                                                                refine hK.out _ _ trivial (fun hHeld => ?_)
                                                                clear hHeld hK K'
                                                                try simp only [Act.put, List.setIfInBounds_toArray, List.set_cons_zero, List.set_cons_succ]
                                                                generalize (u.alloc (.map #[] 0)) = v at HI ⊢
                                                                generalize u.heap.size = m7
                                                                exact H_m6_7.out v m6 m7 HI
                                                              · go_simp
                                                                replace HI := Lib.hid ((HI.out.al (.cells #[.int .i64 0, .int .i64 0, .int .i64 0, .int .i64 0, .int .i64 0, .int .i64 0, .int .i64 0, .int .i64 0, .int .i64 0, .int .i64 0, .int .i64 0, .int .i64 0] 24)).gk (rowAt_new _ _ _) HI.out.b.size)
                                                                refine hK.out _ _ trivial (fun hHeld => ?_)
                                                                clear hHeld hK K'
                                                                try simp only [Act.put, List.setIfInBounds_toArray, List.set_cons_zero, List.set_cons_succ]
                                                                generalize (u.alloc (.cells #[.int .i64 0, .int .i64 0, .int .i64 0, .int .i64 0, .int .i64 0, .int .i64 0, .int .i64 0, .int .i64 0, .int .i64 0, .int .i64 0, .int .i64 0, .int .i64 0] 24)) = v at HI ⊢
                                                                generalize u.heap.size = kb at HI ⊢
                                                                exact H_m6_10.out v kb m6 HI
                                                          · intro u rb v0 v1 HI
                                                            refine wpAnyH_ready (rs := [3, 6, 7, 10]) (by kernel_rfl) (by simp) ?_
                                                            refine AllReadyH.cons (o := { dst := some 19, op := Op.makeSlice 51 (Operand.tmp 18) (Operand.tmp 18), type := 51, pos := "stamp.go:32", after := #[{ on := 2, ground := Ground.data }, { on := 2, ground := Ground.data }], guard := none }) rfl (fun K' hK => ?_) (AllReadyH.cons (o := { dst := some 22, op := Op.makeMap 55 none, type := 55, pos := "stamp.go:32", after := #[], guard := none }) rfl (fun K' hK => ?_) (AllReadyH.cons (o := { dst := some 23, op := Op.makeMap 56 none, type := 56, pos := "stamp.go:32", after := #[], guard := none }) rfl (fun K' hK => ?_) (AllReadyH.cons (o := { dst := some 26, op := Op.makeSlice 37 (Operand.tmp 25) (Operand.tmp 25), type := 37, pos := "stamp.go:32", after := #[{ on := 9, ground := Ground.data }, { on := 9, ground := Ground.data }], guard := none }) rfl (fun K' hK => ?_) AllReadyH.nil)))
                                                            · go_simp
                                                              replace HI := Lib.hid ((HI.out.al (.cells #[.bool false, .bool false, .bool false] 4)).gy (rowAt_new _ _ _) HI.out.b.size)
                                                              refine hK.out _ _ trivial (fun hHeld => ?_)
                                                              clear hHeld hK K'
                                                              try simp only [Act.put, List.setIfInBounds_toArray, List.set_cons_zero, List.set_cons_succ]
                                                              generalize (u.alloc (.cells #[.bool false, .bool false, .bool false] 4)) = v at HI ⊢
                                                              generalize u.heap.size = yb at HI ⊢
                                                              exact H_m3_5.out v yb rb v0 v1 HI
                                                            · go_simp
                                                              replace HI := Lib.hid (HI.out.al (.map #[] 0))
                                                              refine hK.out _ _ trivial (fun hHeld => ?_)
                                                              clear hHeld hK K'
                                                              try simp only [Act.put, List.setIfInBounds_toArray, List.set_cons_zero, List.set_cons_succ]
                                                              generalize (u.alloc (.map #[] 0)) = v at HI ⊢
                                                              generalize u.heap.size = m6
                                                              exact H_m5_6.out v rb v0 v1 m6 HI
                                                            · go_simp
                                                              replace HI := Lib.hid (HI.out.al (.map #[] 0))
                                                              refine hK.out _ _ trivial (fun hHeld => ?_)
                                                              clear hHeld hK K'
                                                              try simp only [Act.put, List.setIfInBounds_toArray, List.set_cons_zero, List.set_cons_succ]
                                                              generalize (u.alloc (.map #[] 0)) = v at HI ⊢
                                                              generalize u.heap.size = m7
                                                              exact H_m5_7.out v rb v0 v1 m7 HI
                                                            · go_simp
                                                              replace HI := Lib.hid ((HI.out.al (.cells #[.int .i64 0, .int .i64 0, .int .i64 0, .int .i64 0, .int .i64 0, .int .i64 0, .int .i64 0, .int .i64 0, .int .i64 0, .int .i64 0, .int .i64 0, .int .i64 0] 24)).gk (rowAt_new _ _ _) HI.out.b.size)
                                                              refine hK.out _ _ trivial (fun hHeld => ?_)
                                                              clear hHeld hK K'
                                                              try simp only [Act.put, List.setIfInBounds_toArray, List.set_cons_zero, List.set_cons_succ]
                                                              generalize (u.alloc (.cells #[.int .i64 0, .int .i64 0, .int .i64 0, .int .i64 0, .int .i64 0, .int .i64 0, .int .i64 0, .int .i64 0, .int .i64 0, .int .i64 0, .int .i64 0, .int .i64 0] 24)) = v at HI ⊢
                                                              generalize u.heap.size = kb at HI ⊢
                                                              exact H_m5_10.out v kb rb v0 v1 HI
                                                        · intro u yb HI
                                                          refine wpAnyH_ready (rs := [5, 6, 7, 10]) (by kernel_rfl) (by simp) ?_
                                                          refine AllReadyH.cons (o := { dst := some 21, op := Op.call { callee := Callee.value (Operand.func 24), args := #[Operand.tmp 20, Operand.const (Value.int IntKind.i64 4), Operand.func 25], argTypes := #[36, 3, 54] }, type := 52, pos := "stamp.go:35", after := #[{ on := 4, ground := Ground.data }], guard := none }) rfl (fun K' hK => ?_) (AllReadyH.cons (o := { dst := some 22, op := Op.makeMap 55 none, type := 55, pos := "stamp.go:32", after := #[], guard := none }) rfl (fun K' hK => ?_) (AllReadyH.cons (o := { dst := some 23, op := Op.makeMap 56 none, type := 56, pos := "stamp.go:32", after := #[], guard := none }) rfl (fun K' hK => ?_) (AllReadyH.cons (o := { dst := some 26, op := Op.makeSlice 37 (Operand.tmp 25) (Operand.tmp 25), type := 37, pos := "stamp.go:32", after := #[{ on := 9, ground := Ground.data }, { on := 9, ground := Ground.data }], guard := none }) rfl (fun K' hK => ?_) AllReadyH.nil)))
                                                          · go_simp
                                                            go_at_call 24
                                                            refine (split_c E _ HI.out.e).mono ?_
                                                            rintro e v ⟨rb, v0, v1, rfl, _, hr, hr0, hr1, hb⟩
                                                            replace HI := Lib.hid ((HI.out.past hb rfl rfl rfl rfl).gr (t := (rb, v0, v1)) ⟨hr, hr0, hr1⟩)
                                                            clear hr hr0 hr1 hb
                                                            refine hK.out _ _ trivial (fun hHeld => ?_)
                                                            clear hHeld hK K'
                                                            try simp only [Act.put, List.setIfInBounds_toArray, List.set_cons_zero, List.set_cons_succ]
                                                            exact H_m3_5.out v yb rb v0 v1 HI
                                                          · go_simp
                                                            replace HI := Lib.hid (HI.out.al (.map #[] 0))
                                                            refine hK.out _ _ trivial (fun hHeld => ?_)
                                                            clear hHeld hK K'
                                                            try simp only [Act.put, List.setIfInBounds_toArray, List.set_cons_zero, List.set_cons_succ]
                                                            generalize (u.alloc (.map #[] 0)) = v at HI ⊢
                                                            generalize u.heap.size = m6
                                                            exact H_m3_6.out v yb m6 HI
                                                          · go_simp
                                                            replace HI := Lib.hid (HI.out.al (.map #[] 0))
                                                            refine hK.out _ _ trivial (fun hHeld => ?_)
                                                            clear hHeld hK K'
                                                            try simp only [Act.put, List.setIfInBounds_toArray, List.set_cons_zero, List.set_cons_succ]
                                                            generalize (u.alloc (.map #[] 0)) = v at HI ⊢
                                                            generalize u.heap.size = m7
                                                            exact H_m3_7.out v yb m7 HI
                                                          · go_simp
                                                            replace HI := Lib.hid ((HI.out.al (.cells #[.int .i64 0, .int .i64 0, .int .i64 0, .int .i64 0, .int .i64 0, .int .i64 0, .int .i64 0, .int .i64 0, .int .i64 0, .int .i64 0, .int .i64 0, .int .i64 0] 24)).gk (rowAt_new _ _ _) HI.out.b.size)
                                                            refine hK.out _ _ trivial (fun hHeld => ?_)
                                                            clear hHeld hK K'
                                                            try simp only [Act.put, List.setIfInBounds_toArray, List.set_cons_zero, List.set_cons_succ]
                                                            generalize (u.alloc (.cells #[.int .i64 0, .int .i64 0, .int .i64 0, .int .i64 0, .int .i64 0, .int .i64 0, .int .i64 0, .int .i64 0, .int .i64 0, .int .i64 0, .int .i64 0, .int .i64 0] 24)) = v at HI ⊢
                                                            generalize u.heap.size = kb at HI ⊢
                                                            exact H_m3_10.out v yb kb HI
                                                      · intro u kb m7 HI
                                                        refine wpAnyH_ready (rs := [3, 5, 6]) (by kernel_rfl) (by simp) ?_
                                                        refine AllReadyH.cons (o := { dst := some 19, op := Op.makeSlice 51 (Operand.tmp 18) (Operand.tmp 18), type := 51, pos := "stamp.go:32", after := #[{ on := 2, ground := Ground.data }, { on := 2, ground := Ground.data }], guard := none }) rfl (fun K' hK => ?_) (AllReadyH.cons (o := { dst := some 21, op := Op.call { callee := Callee.value (Operand.func 24), args := #[Operand.tmp 20, Operand.const (Value.int IntKind.i64 4), Operand.func 25], argTypes := #[36, 3, 54] }, type := 52, pos := "stamp.go:35", after := #[{ on := 4, ground := Ground.data }], guard := none }) rfl (fun K' hK => ?_) (AllReadyH.cons (o := { dst := some 22, op := Op.makeMap 55 none, type := 55, pos := "stamp.go:32", after := #[], guard := none }) rfl (fun K' hK => ?_) AllReadyH.nil))
                                                        · go_simp
                                                          replace HI := Lib.hid ((HI.out.al (.cells #[.bool false, .bool false, .bool false] 4)).gy (rowAt_new _ _ _) HI.out.b.size)
                                                          refine hK.out _ _ trivial (fun hHeld => ?_)
                                                          clear hHeld hK K'
                                                          try simp only [Act.put, List.setIfInBounds_toArray, List.set_cons_zero, List.set_cons_succ]
                                                          generalize (u.alloc (.cells #[.bool false, .bool false, .bool false] 4)) = v at HI ⊢
                                                          generalize u.heap.size = yb at HI ⊢
                                                          exact H_m3_7_10.out v yb kb m7 HI
                                                        · go_simp
                                                          go_at_call 24
                                                          refine (split_c E _ HI.out.e).mono ?_
                                                          rintro e v ⟨rb, v0, v1, rfl, _, hr, hr0, hr1, hb⟩
                                                          replace HI := Lib.hid ((HI.out.past hb rfl rfl rfl rfl).gr (t := (rb, v0, v1)) ⟨hr, hr0, hr1⟩)
                                                          clear hr hr0 hr1 hb
                                                          refine hK.out _ _ trivial (fun hHeld => ?_)
                                                          clear hHeld hK K'
                                                          try simp only [Act.put, List.setIfInBounds_toArray, List.set_cons_zero, List.set_cons_succ]
                                                          exact H_m5_7_10.out v kb rb v0 v1 m7 HI
                                                        · go_simp
                                                          replace HI := Lib.hid (HI.out.al (.map #[] 0))
                                                          refine hK.out _ _ trivial (fun hHeld => ?_)
                                                          clear hHeld hK K'
                                                          try simp only [Act.put, List.setIfInBounds_toArray, List.set_cons_zero, List.set_cons_succ]
                                                          generalize (u.alloc (.map #[] 0)) = v at HI ⊢
                                                          generalize u.heap.size = m6
                                                          exact H_m6_7_10.out v kb m6 m7 HI
                                                    · intro u kb m6 HI
                                                      refine wpAnyH_ready (rs := [3, 5, 7]) (by kernel_rfl) (by simp) ?_
                                                      refine AllReadyH.cons (o := { dst := some 19, op := Op.makeSlice 51 (Operand.tmp 18) (Operand.tmp 18), type := 51, pos := "stamp.go:32", after := #[{ on := 2, ground := Ground.data }, { on := 2, ground := Ground.data }], guard := none }) rfl (fun K' hK => ?_) (AllReadyH.cons (o := { dst := some 21, op := Op.call { callee := Callee.value (Operand.func 24), args := #[Operand.tmp 20, Operand.const (Value.int IntKind.i64 4), Operand.func 25], argTypes := #[36, 3, 54] }, type := 52, pos := "stamp.go:35", after := #[{ on := 4, ground := Ground.data }], guard := none }) rfl (fun K' hK => ?_) (AllReadyH.cons (o := { dst := some 23, op := Op.makeMap 56 none, type := 56, pos := "stamp.go:32", after := #[], guard := none }) rfl (fun K' hK => ?_) AllReadyH.nil))
                                                      · go_simp
                                                        replace HI := Lib.hid ((HI.out.al (.cells #[.bool false, .bool false, .bool false] 4)).gy (rowAt_new _ _ _) HI.out.b.size)
                                                        refine hK.out _ _ trivial (fun hHeld => ?_)
                                                        clear hHeld hK K'
                                                        try simp only [Act.put, List.setIfInBounds_toArray, List.set_cons_zero, List.set_cons_succ]
                                                        generalize (u.alloc (.cells #[.bool false, .bool false, .bool false] 4)) = v at HI ⊢
                                                        generalize u.heap.size = yb at HI ⊢
                                                        exact H_m3_6_10.out v yb kb m6 HI
                                                      · go_simp
                                                        go_at_call 24
                                                        refine (split_c E _ HI.out.e).mono ?_
                                                        rintro e v ⟨rb, v0, v1, rfl, _, hr, hr0, hr1, hb⟩
                                                        replace HI := Lib.hid ((HI.out.past hb rfl rfl rfl rfl).gr (t := (rb, v0, v1)) ⟨hr, hr0, hr1⟩)
                                                        clear hr hr0 hr1 hb
                                                        refine hK.out _ _ trivial (fun hHeld => ?_)
                                                        clear hHeld hK K'
                                                        try simp only [Act.put, List.setIfInBounds_toArray, List.set_cons_zero, List.set_cons_succ]
                                                        exact H_m5_6_10.out v kb rb v0 v1 m6 HI
                                                      · go_simp
                                                        replace HI := Lib.hid (HI.out.al (.map #[] 0))
                                                        refine hK.out _ _ trivial (fun hHeld => ?_)
                                                        clear hHeld hK K'
                                                        try simp only [Act.put, List.setIfInBounds_toArray, List.set_cons_zero, List.set_cons_succ]
                                                        generalize (u.alloc (.map #[] 0)) = v at HI ⊢
                                                        generalize u.heap.size = m7
                                                        exact H_m6_7_10.out v kb m6 m7 HI
                                                  · intro u m6 m7 HI
                                                    refine wpAnyH_ready (rs := [3, 5, 10]) (by kernel_rfl) (by simp) ?_
                                                    refine AllReadyH.cons (o := { dst := some 19, op := Op.makeSlice 51 (Operand.tmp 18) (Operand.tmp 18), type := 51, pos := "stamp.go:32", after := #[{ on := 2, ground := Ground.data }, { on := 2, ground := Ground.data }], guard := none }) rfl (fun K' hK => ?_) (AllReadyH.cons (o := { dst := some 21, op := Op.call { callee := Callee.value (Operand.func 24), args := #[Operand.tmp 20, Operand.const (Value.int IntKind.i64 4), Operand.func 25], argTypes := #[36, 3, 54] }, type := 52, pos := "stamp.go:35", after := #[{ on := 4, ground := Ground.data }], guard := none }) rfl (fun K' hK => ?_) (AllReadyH.cons (o := { dst := some 26, op := Op.makeSlice 37 (Operand.tmp 25) (Operand.tmp 25), type := 37, pos := "stamp.go:32", after := #[{ on := 9, ground := Ground.data }, { on := 9, ground := Ground.data }], guard := none }) rfl (fun K' hK => ?_) AllReadyH.nil))
                                                    · go_simp
                                                      replace HI := Lib.hid ((HI.out.al (.cells #[.bool false, .bool false, .bool false] 4)).gy (rowAt_new _ _ _) HI.out.b.size)
                                                      refine hK.out _ _ trivial (fun hHeld => ?_)
                                                      clear hHeld hK K'
                                                      try simp only [Act.put, List.setIfInBounds_toArray, List.set_cons_zero, List.set_cons_succ]
                                                      generalize (u.alloc (.cells #[.bool false, .bool false, .bool false] 4)) = v at HI ⊢
                                                      generalize u.heap.size = yb at HI ⊢
                                                      exact H_m3_6_7.out v yb m6 m7 HI
                                                    · go_simp
                                                      go_at_call 24
                                                      refine (split_c E _ HI.out.e).mono ?_
                                                      rintro e v ⟨rb, v0, v1, rfl, _, hr, hr0, hr1, hb⟩
                                                      replace HI := Lib.hid ((HI.out.past hb rfl rfl rfl rfl).gr (t := (rb, v0, v1)) ⟨hr, hr0, hr1⟩)
                                                      clear hr hr0 hr1 hb
                                                      refine hK.out _ _ trivial (fun hHeld => ?_)
                                                      clear hHeld hK K'
                                                      try simp only [Act.put, List.setIfInBounds_toArray, List.set_cons_zero, List.set_cons_succ]
                                                      exact H_m5_6_7.out v rb v0 v1 m6 m7 HI
                                                    · go_simp
                                                      replace HI := Lib.hid ((HI.out.al (.cells #[.int .i64 0, .int .i64 0, .int .i64 0, .int .i64 0, .int .i64 0, .int .i64 0, .int .i64 0, .int .i64 0, .int .i64 0, .int .i64 0, .int .i64 0, .int .i64 0] 24)).gk (rowAt_new _ _ _) HI.out.b.size)
                                                      refine hK.out _ _ trivial (fun hHeld => ?_)
                                                      clear hHeld hK K'
                                                      try simp only [Act.put, List.setIfInBounds_toArray, List.set_cons_zero, List.set_cons_succ]
                                                      generalize (u.alloc (.cells #[.int .i64 0, .int .i64 0, .int .i64 0, .int .i64 0, .int .i64 0, .int .i64 0, .int .i64 0, .int .i64 0, .int .i64 0, .int .i64 0, .int .i64 0, .int .i64 0] 24)) = v at HI ⊢
                                                      generalize u.heap.size = kb at HI ⊢
                                                      exact H_m6_7_10.out v kb m6 m7 HI
                                                · intro u kb rb v0 v1 HI
                                                  refine wpAnyH_ready (rs := [3, 6, 7]) (by kernel_rfl) (by simp) ?_
                                                  refine AllReadyH.cons (o := { dst := some 19, op := Op.makeSlice 51 (Operand.tmp 18) (Operand.tmp 18), type := 51, pos := "stamp.go:32", after := #[{ on := 2, ground := Ground.data }, { on := 2, ground := Ground.data }], guard := none }) rfl (fun K' hK => ?_) (AllReadyH.cons (o := { dst := some 22, op := Op.makeMap 55 none, type := 55, pos := "stamp.go:32", after := #[], guard := none }) rfl (fun K' hK => ?_) (AllReadyH.cons (o := { dst := some 23, op := Op.makeMap 56 none, type := 56, pos := "stamp.go:32", after := #[], guard := none }) rfl (fun K' hK => ?_) AllReadyH.nil))
                                                  · go_simp
                                                    replace HI := Lib.hid ((HI.out.al (.cells #[.bool false, .bool false, .bool false] 4)).gy (rowAt_new _ _ _) HI.out.b.size)
                                                    refine hK.out _ _ trivial (fun hHeld => ?_)
                                                    clear hHeld hK K'
                                                    try simp only [Act.put, List.setIfInBounds_toArray, List.set_cons_zero, List.set_cons_succ]
                                                    generalize (u.alloc (.cells #[.bool false, .bool false, .bool false] 4)) = v at HI ⊢
                                                    generalize u.heap.size = yb at HI ⊢
                                                    exact H_m3_5_10.out v yb kb rb v0 v1 HI
                                                  · go_simp
                                                    replace HI := Lib.hid (HI.out.al (.map #[] 0))
                                                    refine hK.out _ _ trivial (fun hHeld => ?_)
                                                    clear hHeld hK K'
                                                    try simp only [Act.put, List.setIfInBounds_toArray, List.set_cons_zero, List.set_cons_succ]
                                                    generalize (u.alloc (.map #[] 0)) = v at HI ⊢
                                                    generalize u.heap.size = m6
                                                    exact H_m5_6_10.out v kb rb v0 v1 m6 HI
                                                  · go_simp
                                                    replace HI := Lib.hid (HI.out.al (.map #[] 0))
                                                    refine hK.out _ _ trivial (fun hHeld => ?_)
                                                    clear hHeld hK K'
                                                    try simp only [Act.put, List.setIfInBounds_toArray, List.set_cons_zero, List.set_cons_succ]
                                                    generalize (u.alloc (.map #[] 0)) = v at HI ⊢
                                                    generalize u.heap.size = m7
                                                    exact H_m5_7_10.out v kb rb v0 v1 m7 HI
                                              · intro u rb v0 v1 m7 HI
                                                refine wpAnyH_ready (rs := [3, 6, 10]) (by kernel_rfl) (by simp) ?_
                                                refine AllReadyH.cons (o := { dst := some 19, op := Op.makeSlice 51 (Operand.tmp 18) (Operand.tmp 18), type := 51, pos := "stamp.go:32", after := #[{ on := 2, ground := Ground.data }, { on := 2, ground := Ground.data }], guard := none }) rfl (fun K' hK => ?_) (AllReadyH.cons (o := { dst := some 22, op := Op.makeMap 55 none, type := 55, pos := "stamp.go:32", after := #[], guard := none }) rfl (fun K' hK => ?_) (AllReadyH.cons (o := { dst := some 26, op := Op.makeSlice 37 (Operand.tmp 25) (Operand.tmp 25), type := 37, pos := "stamp.go:32", after := #[{ on := 9, ground := Ground.data }, { on := 9, ground := Ground.data }], guard := none }) rfl (fun K' hK => ?_) AllReadyH.nil))
                                                · go_simp
                                                  replace HI := Lib.hid ((HI.out.al (.cells #[.bool false, .bool false, .bool false] 4)).gy (rowAt_new _ _ _) HI.out.b.size)
                                                  refine hK.out _ _ trivial (fun hHeld => ?_)
                                                  clear hHeld hK K'
                                                  try simp only [Act.put, List.setIfInBounds_toArray, List.set_cons_zero, List.set_cons_succ]
                                                  generalize (u.alloc (.cells #[.bool false, .bool false, .bool false] 4)) = v at HI ⊢
                                                  generalize u.heap.size = yb at HI ⊢
                                                  exact H_m3_5_7.out v yb rb v0 v1 m7 HI
                                                · go_simp
                                                  replace HI := Lib.hid (HI.out.al (.map #[] 0))
                                                  refine hK.out _ _ trivial (fun hHeld => ?_)
                                                  clear hHeld hK K'
                                                  try simp only [Act.put, List.setIfInBounds_toArray, List.set_cons_zero, List.set_cons_succ]
                                                  generalize (u.alloc (.map #[] 0)) = v at HI ⊢
                                                  generalize u.heap.size = m6
                                                  exact H_m5_6_7.out v rb v0 v1 m6 m7 HI
                                                · go_simp
                                                  replace HI := Lib.hid ((HI.out.al (.cells #[.int .i64 0, .int .i64 0, .int .i64 0, .int .i64 0, .int .i64 0, .int .i64 0, .int .i64 0, .int .i64 0, .int .i64 0, .int .i64 0, .int .i64 0, .int .i64 0] 24)).gk (rowAt_new _ _ _) HI.out.b.size)
                                                  refine hK.out _ _ trivial (fun hHeld => ?_)
                                                  clear hHeld hK K'
                                                  try simp only [Act.put, List.setIfInBounds_toArray, List.set_cons_zero, List.set_cons_succ]
                                                  generalize (u.alloc (.cells #[.int .i64 0, .int .i64 0, .int .i64 0, .int .i64 0, .int .i64 0, .int .i64 0, .int .i64 0, .int .i64 0, .int .i64 0, .int .i64 0, .int .i64 0, .int .i64 0] 24)) = v at HI ⊢
                                                  generalize u.heap.size = kb at HI ⊢
                                                  exact H_m5_7_10.out v kb rb v0 v1 m7 HI
                                            · intro u rb v0 v1 m6 HI
                                              refine wpAnyH_ready (rs := [3, 7, 10]) (by kernel_rfl) (by simp) ?_
                                              refine AllReadyH.cons (o := { dst := some 19, op := Op.makeSlice 51 (Operand.tmp 18) (Operand.tmp 18), type := 51, pos := "stamp.go:32", after := #[{ on := 2, ground := Ground.data }, { on := 2, ground := Ground.data }], guard := none }) rfl (fun K' hK => ?_) (AllReadyH.cons (o := { dst := some 23, op := Op.makeMap 56 none, type := 56, pos := "stamp.go:32", after := #[], guard := none }) rfl (fun K' hK => ?_) (AllReadyH.cons (o := { dst := some 26, op := Op.makeSlice 37 (Operand.tmp 25) (Operand.tmp 25), type := 37, pos := "stamp.go:32", after := #[{ on := 9, ground := Ground.data }, { on := 9, ground := Ground.data }], guard := none }) rfl (fun K' hK => ?_) AllReadyH.nil))
                                              · go_simp
                                                replace HI := Lib.hid ((HI.out.al (.cells #[.bool false, .bool false, .bool false] 4)).gy (rowAt_new _ _ _) HI.out.b.size)
                                                refine hK.out _ _ trivial (fun hHeld => ?_)
                                                clear hHeld hK K'
                                                try simp only [Act.put, List.setIfInBounds_toArray, List.set_cons_zero, List.set_cons_succ]
                                                generalize (u.alloc (.cells #[.bool false, .bool false, .bool false] 4)) = v at HI ⊢
                                                generalize u.heap.size = yb at HI ⊢
                                                exact H_m3_5_6.out v yb rb v0 v1 m6 HI
                                              · go_simp
                                                replace HI := Lib.hid (HI.out.al (.map #[] 0))
                                                refine hK.out _ _ trivial (fun hHeld => ?_)
                                                clear hHeld hK K'
                                                try simp only [Act.put, List.setIfInBounds_toArray, List.set_cons_zero, List.set_cons_succ]
                                                generalize (u.alloc (.map #[] 0)) = v at HI ⊢
                                                generalize u.heap.size = m7
                                                exact H_m5_6_7.out v rb v0 v1 m6 m7 HI
                                              · go_simp
                                                replace HI := Lib.hid ((HI.out.al (.cells #[.int .i64 0, .int .i64 0, .int .i64 0, .int .i64 0, .int .i64 0, .int .i64 0, .int .i64 0, .int .i64 0, .int .i64 0, .int .i64 0, .int .i64 0, .int .i64 0] 24)).gk (rowAt_new _ _ _) HI.out.b.size)
                                                refine hK.out _ _ trivial (fun hHeld => ?_)
                                                clear hHeld hK K'
                                                try simp only [Act.put, List.setIfInBounds_toArray, List.set_cons_zero, List.set_cons_succ]
                                                generalize (u.alloc (.cells #[.int .i64 0, .int .i64 0, .int .i64 0, .int .i64 0, .int .i64 0, .int .i64 0, .int .i64 0, .int .i64 0, .int .i64 0, .int .i64 0, .int .i64 0, .int .i64 0] 24)) = v at HI ⊢
                                                generalize u.heap.size = kb at HI ⊢
                                                exact H_m5_6_10.out v kb rb v0 v1 m6 HI
                                          · intro u yb kb HI
                                            refine wpAnyH_ready (rs := [5, 6, 7]) (by kernel_rfl) (by simp) ?_
                                            refine AllReadyH.cons (o := { dst := some 21, op := Op.call { callee := Callee.value (Operand.func 24), args := #[Operand.tmp 20, Operand.const (Value.int IntKind.i64 4), Operand.func 25], argTypes := #[36, 3, 54] }, type := 52, pos := "stamp.go:35", after := #[{ on := 4, ground := Ground.data }], guard := none }) rfl (fun K' hK => ?_) (AllReadyH.cons (o := { dst := some 22, op := Op.makeMap 55 none, type := 55, pos := "stamp.go:32", after := #[], guard := none }) rfl (fun K' hK => ?_) (AllReadyH.cons (o := { dst := some 23, op := Op.makeMap 56 none, type := 56, pos := "stamp.go:32", after := #[], guard := none }) rfl (fun K' hK => ?_) AllReadyH.nil))
                                            · go_simp
                                              go_at_call 24
                                              refine (split_c E _ HI.out.e).mono ?_
                                              rintro e v ⟨rb, v0, v1, rfl, _, hr, hr0, hr1, hb⟩
                                              replace HI := Lib.hid ((HI.out.past hb rfl rfl rfl rfl).gr (t := (rb, v0, v1)) ⟨hr, hr0, hr1⟩)
                                              clear hr hr0 hr1 hb
                                              refine hK.out _ _ trivial (fun hHeld => ?_)
                                              clear hHeld hK K'
                                              try simp only [Act.put, List.setIfInBounds_toArray, List.set_cons_zero, List.set_cons_succ]
                                              exact H_m3_5_10.out v yb kb rb v0 v1 HI
                                            · go_simp
                                              replace HI := Lib.hid (HI.out.al (.map #[] 0))
                                              refine hK.out _ _ trivial (fun hHeld => ?_)
                                              clear hHeld hK K'
                                              try simp only [Act.put, List.setIfInBounds_toArray, List.set_cons_zero, List.set_cons_succ]
                                              generalize (u.alloc (.map #[] 0)) = v at HI ⊢
                                              generalize u.heap.size = m6
                                              exact H_m3_6_10.out v yb kb m6 HI
                                            · go_simp
                                              replace HI := Lib.hid (HI.out.al (.map #[] 0))
                                              refine hK.out _ _ trivial (fun hHeld => ?_)
                                              clear hHeld hK K'
                                              try simp only [Act.put, List.setIfInBounds_toArray, List.set_cons_zero, List.set_cons_succ]
                                              generalize (u.alloc (.map #[] 0)) = v at HI ⊢
                                              generalize u.heap.size = m7
                                              exact H_m3_7_10.out v yb kb m7 HI
                                        · intro u yb m7 HI
                                          refine wpAnyH_ready (rs := [5, 6, 10]) (by kernel_rfl) (by simp) ?_
                                          refine AllReadyH.cons (o := { dst := some 21, op := Op.call { callee := Callee.value (Operand.func 24), args := #[Operand.tmp 20, Operand.const (Value.int IntKind.i64 4), Operand.func 25], argTypes := #[36, 3, 54] }, type := 52, pos := "stamp.go:35", after := #[{ on := 4, ground := Ground.data }], guard := none }) rfl (fun K' hK => ?_) (AllReadyH.cons (o := { dst := some 22, op := Op.makeMap 55 none, type := 55, pos := "stamp.go:32", after := #[], guard := none }) rfl (fun K' hK => ?_) (AllReadyH.cons (o := { dst := some 26, op := Op.makeSlice 37 (Operand.tmp 25) (Operand.tmp 25), type := 37, pos := "stamp.go:32", after := #[{ on := 9, ground := Ground.data }, { on := 9, ground := Ground.data }], guard := none }) rfl (fun K' hK => ?_) AllReadyH.nil))
                                          · go_simp
                                            go_at_call 24
                                            refine (split_c E _ HI.out.e).mono ?_
                                            rintro e v ⟨rb, v0, v1, rfl, _, hr, hr0, hr1, hb⟩
                                            replace HI := Lib.hid ((HI.out.past hb rfl rfl rfl rfl).gr (t := (rb, v0, v1)) ⟨hr, hr0, hr1⟩)
                                            clear hr hr0 hr1 hb
                                            refine hK.out _ _ trivial (fun hHeld => ?_)
                                            clear hHeld hK K'
                                            try simp only [Act.put, List.setIfInBounds_toArray, List.set_cons_zero, List.set_cons_succ]
                                            exact H_m3_5_7.out v yb rb v0 v1 m7 HI
                                          · go_simp
                                            replace HI := Lib.hid (HI.out.al (.map #[] 0))
                                            refine hK.out _ _ trivial (fun hHeld => ?_)
                                            clear hHeld hK K'
                                            try simp only [Act.put, List.setIfInBounds_toArray, List.set_cons_zero, List.set_cons_succ]
                                            generalize (u.alloc (.map #[] 0)) = v at HI ⊢
                                            generalize u.heap.size = m6
                                            exact H_m3_6_7.out v yb m6 m7 HI
                                          · go_simp
                                            replace HI := Lib.hid ((HI.out.al (.cells #[.int .i64 0, .int .i64 0, .int .i64 0, .int .i64 0, .int .i64 0, .int .i64 0, .int .i64 0, .int .i64 0, .int .i64 0, .int .i64 0, .int .i64 0, .int .i64 0] 24)).gk (rowAt_new _ _ _) HI.out.b.size)
                                            refine hK.out _ _ trivial (fun hHeld => ?_)
                                            clear hHeld hK K'
                                            try simp only [Act.put, List.setIfInBounds_toArray, List.set_cons_zero, List.set_cons_succ]
                                            generalize (u.alloc (.cells #[.int .i64 0, .int .i64 0, .int .i64 0, .int .i64 0, .int .i64 0, .int .i64 0, .int .i64 0, .int .i64 0, .int .i64 0, .int .i64 0, .int .i64 0, .int .i64 0] 24)) = v at HI ⊢
                                            generalize u.heap.size = kb at HI ⊢
                                            exact H_m3_7_10.out v yb kb m7 HI
                                      · intro u yb m6 HI
                                        refine wpAnyH_ready (rs := [5, 7, 10]) (by kernel_rfl) (by simp) ?_
                                        refine AllReadyH.cons (o := { dst := some 21, op := Op.call { callee := Callee.value (Operand.func 24), args := #[Operand.tmp 20, Operand.const (Value.int IntKind.i64 4), Operand.func 25], argTypes := #[36, 3, 54] }, type := 52, pos := "stamp.go:35", after := #[{ on := 4, ground := Ground.data }], guard := none }) rfl (fun K' hK => ?_) (AllReadyH.cons (o := { dst := some 23, op := Op.makeMap 56 none, type := 56, pos := "stamp.go:32", after := #[], guard := none }) rfl (fun K' hK => ?_) (AllReadyH.cons (o := { dst := some 26, op := Op.makeSlice 37 (Operand.tmp 25) (Operand.tmp 25), type := 37, pos := "stamp.go:32", after := #[{ on := 9, ground := Ground.data }, { on := 9, ground := Ground.data }], guard := none }) rfl (fun K' hK => ?_) AllReadyH.nil))
                                        · go_simp
                                          go_at_call 24
                                          refine (split_c E _ HI.out.e).mono ?_
                                          rintro e v ⟨rb, v0, v1, rfl, _, hr, hr0, hr1, hb⟩
                                          replace HI := Lib.hid ((HI.out.past hb rfl rfl rfl rfl).gr (t := (rb, v0, v1)) ⟨hr, hr0, hr1⟩)
                                          clear hr hr0 hr1 hb
                                          refine hK.out _ _ trivial (fun hHeld => ?_)
                                          clear hHeld hK K'
                                          try simp only [Act.put, List.setIfInBounds_toArray, List.set_cons_zero, List.set_cons_succ]
                                          exact H_m3_5_6.out v yb rb v0 v1 m6 HI
                                        · go_simp
                                          replace HI := Lib.hid (HI.out.al (.map #[] 0))
                                          refine hK.out _ _ trivial (fun hHeld => ?_)
                                          clear hHeld hK K'
                                          try simp only [Act.put, List.setIfInBounds_toArray, List.set_cons_zero, List.set_cons_succ]
                                          generalize (u.alloc (.map #[] 0)) = v at HI ⊢
                                          generalize u.heap.size = m7
                                          exact H_m3_6_7.out v yb m6 m7 HI
                                        · go_simp
                                          replace HI := Lib.hid ((HI.out.al (.cells #[.int .i64 0, .int .i64 0, .int .i64 0, .int .i64 0, .int .i64 0, .int .i64 0, .int .i64 0, .int .i64 0, .int .i64 0, .int .i64 0, .int .i64 0, .int .i64 0] 24)).gk (rowAt_new _ _ _) HI.out.b.size)
                                          refine hK.out _ _ trivial (fun hHeld => ?_)
                                          clear hHeld hK K'
                                          try simp only [Act.put, List.setIfInBounds_toArray, List.set_cons_zero, List.set_cons_succ]
                                          generalize (u.alloc (.cells #[.int .i64 0, .int .i64 0, .int .i64 0, .int .i64 0, .int .i64 0, .int .i64 0, .int .i64 0, .int .i64 0, .int .i64 0, .int .i64 0, .int .i64 0, .int .i64 0] 24)) = v at HI ⊢
                                          generalize u.heap.size = kb at HI ⊢
                                          exact H_m3_6_10.out v yb kb m6 HI
                                    · intro u yb rb v0 v1 HI
                                      refine wpAnyH_ready (rs := [6, 7, 10]) (by kernel_rfl) (by simp) ?_
                                      refine AllReadyH.cons (o := { dst := some 22, op := Op.makeMap 55 none, type := 55, pos := "stamp.go:32", after := #[], guard := none }) rfl (fun K' hK => ?_) (AllReadyH.cons (o := { dst := some 23, op := Op.makeMap 56 none, type := 56, pos := "stamp.go:32", after := #[], guard := none }) rfl (fun K' hK => ?_) (AllReadyH.cons (o := { dst := some 26, op := Op.makeSlice 37 (Operand.tmp 25) (Operand.tmp 25), type := 37, pos := "stamp.go:32", after := #[{ on := 9, ground := Ground.data }, { on := 9, ground := Ground.data }], guard := none }) rfl (fun K' hK => ?_) AllReadyH.nil))
                                      · go_simp
                                        replace HI := Lib.hid (HI.out.al (.map #[] 0))
                                        refine hK.out _ _ trivial (fun hHeld => ?_)
                                        clear hHeld hK K'
                                        try simp only [Act.put, List.setIfInBounds_toArray, List.set_cons_zero, List.set_cons_succ]
                                        generalize (u.alloc (.map #[] 0)) = v at HI ⊢
                                        generalize u.heap.size = m6
                                        exact H_m3_5_6.out v yb rb v0 v1 m6 HI
                                      · go_simp
                                        replace HI := Lib.hid (HI.out.al (.map #[] 0))
                                        refine hK.out _ _ trivial (fun hHeld => ?_)
                                        clear hHeld hK K'
                                        try simp only [Act.put, List.setIfInBounds_toArray, List.set_cons_zero, List.set_cons_succ]
                                        generalize (u.alloc (.map #[] 0)) = v at HI ⊢
                                        generalize u.heap.size = m7
                                        exact H_m3_5_7.out v yb rb v0 v1 m7 HI
                                      · go_simp
                                        replace HI := Lib.hid ((HI.out.al (.cells #[.int .i64 0, .int .i64 0, .int .i64 0, .int .i64 0, .int .i64 0, .int .i64 0, .int .i64 0, .int .i64 0, .int .i64 0, .int .i64 0, .int .i64 0, .int .i64 0] 24)).gk (rowAt_new _ _ _) HI.out.b.size)
                                        refine hK.out _ _ trivial (fun hHeld => ?_)
                                        clear hHeld hK K'
                                        try simp only [Act.put, List.setIfInBounds_toArray, List.set_cons_zero, List.set_cons_succ]
                                        generalize (u.alloc (.cells #[.int .i64 0, .int .i64 0, .int .i64 0, .int .i64 0, .int .i64 0, .int .i64 0, .int .i64 0, .int .i64 0, .int .i64 0, .int .i64 0, .int .i64 0, .int .i64 0] 24)) = v at HI ⊢
                                        generalize u.heap.size = kb at HI ⊢
                                        exact H_m3_5_10.out v yb kb rb v0 v1 HI
                                  · intro u kb m6 m7 HI
                                    refine wpAnyH_ready (rs := [3, 5]) (by kernel_rfl) (by simp) ?_
                                    refine AllReadyH.cons (o := { dst := some 19, op := Op.makeSlice 51 (Operand.tmp 18) (Operand.tmp 18), type := 51, pos := "stamp.go:32", after := #[{ on := 2, ground := Ground.data }, { on := 2, ground := Ground.data }], guard := none }) rfl (fun K' hK => ?_) (AllReadyH.cons (o := { dst := some 21, op := Op.call { callee := Callee.value (Operand.func 24), args := #[Operand.tmp 20, Operand.const (Value.int IntKind.i64 4), Operand.func 25], argTypes := #[36, 3, 54] }, type := 52, pos := "stamp.go:35", after := #[{ on := 4, ground := Ground.data }], guard := none }) rfl (fun K' hK => ?_) AllReadyH.nil)
                                    · go_simp
                                      replace HI := Lib.hid ((HI.out.al (.cells #[.bool false, .bool false, .bool false] 4)).gy (rowAt_new _ _ _) HI.out.b.size)
                                      refine hK.out _ _ trivial (fun hHeld => ?_)
                                      clear hHeld hK K'
                                      try simp only [Act.put, List.setIfInBounds_toArray, List.set_cons_zero, List.set_cons_succ]
                                      generalize (u.alloc (.cells #[.bool false, .bool false, .bool false] 4)) = v at HI ⊢
                                      generalize u.heap.size = yb at HI ⊢
                                      exact H_m3_6_7_10.out v yb kb m6 m7 HI
                                    · go_simp
                                      go_at_call 24
                                      refine (split_c E _ HI.out.e).mono ?_
                                      rintro e v ⟨rb, v0, v1, rfl, _, hr, hr0, hr1, hb⟩
                                      replace HI := Lib.hid ((HI.out.past hb rfl rfl rfl rfl).gr (t := (rb, v0, v1)) ⟨hr, hr0, hr1⟩)
                                      clear hr hr0 hr1 hb
                                      refine hK.out _ _ trivial (fun hHeld => ?_)
                                      clear hHeld hK K'
                                      try simp only [Act.put, List.setIfInBounds_toArray, List.set_cons_zero, List.set_cons_succ]
                                      exact H_m5_6_7_10.out v kb rb v0 v1 m6 m7 HI
                                · intro u kb rb v0 v1 m7 HI
                                  refine wpAnyH_ready (rs := [3, 6]) (by kernel_rfl) (by simp) ?_
                                  refine AllReadyH.cons (o := { dst := some 19, op := Op.makeSlice 51 (Operand.tmp 18) (Operand.tmp 18), type := 51, pos := "stamp.go:32", after := #[{ on := 2, ground := Ground.data }, { on := 2, ground := Ground.data }], guard := none }) rfl (fun K' hK => ?_) (AllReadyH.cons (o := { dst := some 22, op := Op.makeMap 55 none, type := 55, pos := "stamp.go:32", after := #[], guard := none }) rfl (fun K' hK => ?_) AllReadyH.nil)
                                  · go_simp
                                    replace HI := Lib.hid ((HI.out.al (.cells #[.bool false, .bool false, .bool false] 4)).gy (rowAt_new _ _ _) HI.out.b.size)
                                    refine hK.out _ _ trivial (fun hHeld => ?_)
                                    clear hHeld hK K'
                                    try simp only [Act.put, List.setIfInBounds_toArray, List.set_cons_zero, List.set_cons_succ]
                                    generalize (u.alloc (.cells #[.bool false, .bool false, .bool false] 4)) = v at HI ⊢
                                    generalize u.heap.size = yb at HI ⊢
                                    exact H_m3_5_7_10.out v yb kb rb v0 v1 m7 HI
                                  · go_simp
                                    replace HI := Lib.hid (HI.out.al (.map #[] 0))
                                    refine hK.out _ _ trivial (fun hHeld => ?_)
                                    clear hHeld hK K'
                                    try simp only [Act.put, List.setIfInBounds_toArray, List.set_cons_zero, List.set_cons_succ]
                                    generalize (u.alloc (.map #[] 0)) = v at HI ⊢
                                    generalize u.heap.size = m6
                                    exact H_m5_6_7_10.out v kb rb v0 v1 m6 m7 HI
                              · intro u kb rb v0 v1 m6 HI
                                refine wpAnyH_ready (rs := [3, 7]) (by kernel_rfl) (by simp) ?_
                                refine AllReadyH.cons (o := { dst := some 19, op := Op.makeSlice 51 (Operand.tmp 18) (Operand.tmp 18), type := 51, pos := "stamp.go:32", after := #[{ on := 2, ground := Ground.data }, { on := 2, ground := Ground.data }], guard := none }) rfl (fun K' hK => ?_) (AllReadyH.cons (o := { dst := some 23, op := Op.makeMap 56 none, type := 56, pos := "stamp.go:32", after := #[], guard := none }) rfl (fun K' hK => ?_) AllReadyH.nil)
                                · go_simp
                                  replace HI := Lib.hid ((HI.out.al (.cells #[.bool false, .bool false, .bool false] 4)).gy (rowAt_new _ _ _) HI.out.b.size)
                                  refine hK.out _ _ trivial (fun hHeld => ?_)
                                  clear hHeld hK K'
                                  try simp only [Act.put, List.setIfInBounds_toArray, List.set_cons_zero, List.set_cons_succ]
                                  generalize (u.alloc (.cells #[.bool false, .bool false, .bool false] 4)) = v at HI ⊢
                                  generalize u.heap.size = yb at HI ⊢
                                  exact H_m3_5_6_10.out v yb kb rb v0 v1 m6 HI
                                · go_simp
                                  replace HI := Lib.hid (HI.out.al (.map #[] 0))
                                  refine hK.out _ _ trivial (fun hHeld => ?_)
                                  clear hHeld hK K'
                                  try simp only [Act.put, List.setIfInBounds_toArray, List.set_cons_zero, List.set_cons_succ]
                                  generalize (u.alloc (.map #[] 0)) = v at HI ⊢
                                  generalize u.heap.size = m7
                                  exact H_m5_6_7_10.out v kb rb v0 v1 m6 m7 HI
                            · intro u rb v0 v1 m6 m7 HI
                              refine wpAnyH_ready (rs := [3, 10]) (by kernel_rfl) (by simp) ?_
                              refine AllReadyH.cons (o := { dst := some 19, op := Op.makeSlice 51 (Operand.tmp 18) (Operand.tmp 18), type := 51, pos := "stamp.go:32", after := #[{ on := 2, ground := Ground.data }, { on := 2, ground := Ground.data }], guard := none }) rfl (fun K' hK => ?_) (AllReadyH.cons (o := { dst := some 26, op := Op.makeSlice 37 (Operand.tmp 25) (Operand.tmp 25), type := 37, pos := "stamp.go:32", after := #[{ on := 9, ground := Ground.data }, { on := 9, ground := Ground.data }], guard := none }) rfl (fun K' hK => ?_) AllReadyH.nil)
                              · go_simp
                                replace HI := Lib.hid ((HI.out.al (.cells #[.bool false, .bool false, .bool false] 4)).gy (rowAt_new _ _ _) HI.out.b.size)
                                refine hK.out _ _ trivial (fun hHeld => ?_)
                                clear hHeld hK K'
                                try simp only [Act.put, List.setIfInBounds_toArray, List.set_cons_zero, List.set_cons_succ]
                                generalize (u.alloc (.cells #[.bool false, .bool false, .bool false] 4)) = v at HI ⊢
                                generalize u.heap.size = yb at HI ⊢
                                exact H_m3_5_6_7.out v yb rb v0 v1 m6 m7 HI
                              · go_simp
                                replace HI := Lib.hid ((HI.out.al (.cells #[.int .i64 0, .int .i64 0, .int .i64 0, .int .i64 0, .int .i64 0, .int .i64 0, .int .i64 0, .int .i64 0, .int .i64 0, .int .i64 0, .int .i64 0, .int .i64 0] 24)).gk (rowAt_new _ _ _) HI.out.b.size)
                                refine hK.out _ _ trivial (fun hHeld => ?_)
                                clear hHeld hK K'
                                try simp only [Act.put, List.setIfInBounds_toArray, List.set_cons_zero, List.set_cons_succ]
                                generalize (u.alloc (.cells #[.int .i64 0, .int .i64 0, .int .i64 0, .int .i64 0, .int .i64 0, .int .i64 0, .int .i64 0, .int .i64 0, .int .i64 0, .int .i64 0, .int .i64 0, .int .i64 0] 24)) = v at HI ⊢
                                generalize u.heap.size = kb at HI ⊢
                                exact H_m5_6_7_10.out v kb rb v0 v1 m6 m7 HI
                          · intro u yb kb m7 HI
                            refine wpAnyH_ready (rs := [5, 6]) (by kernel_rfl) (by simp) ?_
                            refine AllReadyH.cons (o := { dst := some 21, op := Op.call { callee := Callee.value (Operand.func 24), args := #[Operand.tmp 20, Operand.const (Value.int IntKind.i64 4), Operand.func 25], argTypes := #[36, 3, 54] }, type := 52, pos := "stamp.go:35", after := #[{ on := 4, ground := Ground.data }], guard := none }) rfl (fun K' hK => ?_) (AllReadyH.cons (o := { dst := some 22, op := Op.makeMap 55 none, type := 55, pos := "stamp.go:32", after := #[], guard := none }) rfl (fun K' hK => ?_) AllReadyH.nil)
                            · go_simp
                              go_at_call 24
                              refine (split_c E _ HI.out.e).mono ?_
                              rintro e v ⟨rb, v0, v1, rfl, _, hr, hr0, hr1, hb⟩
                              replace HI := Lib.hid ((HI.out.past hb rfl rfl rfl rfl).gr (t := (rb, v0, v1)) ⟨hr, hr0, hr1⟩)
                              clear hr hr0 hr1 hb
                              refine hK.out _ _ trivial (fun hHeld => ?_)
                              clear hHeld hK K'
                              try simp only [Act.put, List.setIfInBounds_toArray, List.set_cons_zero, List.set_cons_succ]
                              exact H_m3_5_7_10.out v yb kb rb v0 v1 m7 HI
                            · go_simp
                              replace HI := Lib.hid (HI.out.al (.map #[] 0))
                              refine hK.out _ _ trivial (fun hHeld => ?_)
                              clear hHeld hK K'
                              try simp only [Act.put, List.setIfInBounds_toArray, List.set_cons_zero, List.set_cons_succ]
                              generalize (u.alloc (.map #[] 0)) = v at HI ⊢
                              generalize u.heap.size = m6
                              exact H_m3_6_7_10.out v yb kb m6 m7 HI
                        · intro u yb kb m6 HI
                          refine wpAnyH_ready (rs := [5, 7]) (by kernel_rfl) (by simp) ?_
                          refine AllReadyH.cons (o := { dst := some 21, op := Op.call { callee := Callee.value (Operand.func 24), args := #[Operand.tmp 20, Operand.const (Value.int IntKind.i64 4), Operand.func 25], argTypes := #[36, 3, 54] }, type := 52, pos := "stamp.go:35", after := #[{ on := 4, ground := Ground.data }], guard := none }) rfl (fun K' hK => ?_) (AllReadyH.cons (o := { dst := some 23, op := Op.makeMap 56 none, type := 56, pos := "stamp.go:32", after := #[], guard := none }) rfl (fun K' hK => ?_) AllReadyH.nil)
                          · go_simp
                            go_at_call 24
                            refine (split_c E _ HI.out.e).mono ?_
                            rintro e v ⟨rb, v0, v1, rfl, _, hr, hr0, hr1, hb⟩
                            replace HI := Lib.hid ((HI.out.past hb rfl rfl rfl rfl).gr (t := (rb, v0, v1)) ⟨hr, hr0, hr1⟩)
                            clear hr hr0 hr1 hb
                            refine hK.out _ _ trivial (fun hHeld => ?_)
                            clear hHeld hK K'
                            try simp only [Act.put, List.setIfInBounds_toArray, List.set_cons_zero, List.set_cons_succ]
                            exact H_m3_5_6_10.out v yb kb rb v0 v1 m6 HI
                          · go_simp
                            replace HI := Lib.hid (HI.out.al (.map #[] 0))
                            refine hK.out _ _ trivial (fun hHeld => ?_)
                            clear hHeld hK K'
                            try simp only [Act.put, List.setIfInBounds_toArray, List.set_cons_zero, List.set_cons_succ]
                            generalize (u.alloc (.map #[] 0)) = v at HI ⊢
                            generalize u.heap.size = m7
                            exact H_m3_6_7_10.out v yb kb m6 m7 HI
                      · intro u yb m6 m7 HI
                        refine wpAnyH_ready (rs := [5, 10]) (by kernel_rfl) (by simp) ?_
                        refine AllReadyH.cons (o := { dst := some 21, op := Op.call { callee := Callee.value (Operand.func 24), args := #[Operand.tmp 20, Operand.const (Value.int IntKind.i64 4), Operand.func 25], argTypes := #[36, 3, 54] }, type := 52, pos := "stamp.go:35", after := #[{ on := 4, ground := Ground.data }], guard := none }) rfl (fun K' hK => ?_) (AllReadyH.cons (o := { dst := some 26, op := Op.makeSlice 37 (Operand.tmp 25) (Operand.tmp 25), type := 37, pos := "stamp.go:32", after := #[{ on := 9, ground := Ground.data }, { on := 9, ground := Ground.data }], guard := none }) rfl (fun K' hK => ?_) AllReadyH.nil)
                        · go_simp
                          go_at_call 24
                          refine (split_c E _ HI.out.e).mono ?_
                          rintro e v ⟨rb, v0, v1, rfl, _, hr, hr0, hr1, hb⟩
                          replace HI := Lib.hid ((HI.out.past hb rfl rfl rfl rfl).gr (t := (rb, v0, v1)) ⟨hr, hr0, hr1⟩)
                          clear hr hr0 hr1 hb
                          refine hK.out _ _ trivial (fun hHeld => ?_)
                          clear hHeld hK K'
                          try simp only [Act.put, List.setIfInBounds_toArray, List.set_cons_zero, List.set_cons_succ]
                          exact H_m3_5_6_7.out v yb rb v0 v1 m6 m7 HI
                        · go_simp
                          replace HI := Lib.hid ((HI.out.al (.cells #[.int .i64 0, .int .i64 0, .int .i64 0, .int .i64 0, .int .i64 0, .int .i64 0, .int .i64 0, .int .i64 0, .int .i64 0, .int .i64 0, .int .i64 0, .int .i64 0] 24)).gk (rowAt_new _ _ _) HI.out.b.size)
                          refine hK.out _ _ trivial (fun hHeld => ?_)
                          clear hHeld hK K'
                          try simp only [Act.put, List.setIfInBounds_toArray, List.set_cons_zero, List.set_cons_succ]
                          generalize (u.alloc (.cells #[.int .i64 0, .int .i64 0, .int .i64 0, .int .i64 0, .int .i64 0, .int .i64 0, .int .i64 0, .int .i64 0, .int .i64 0, .int .i64 0, .int .i64 0, .int .i64 0] 24)) = v at HI ⊢
                          generalize u.heap.size = kb at HI ⊢
                          exact H_m3_6_7_10.out v yb kb m6 m7 HI
                    · intro u yb kb rb v0 v1 HI
                      refine wpAnyH_ready (rs := [6, 7]) (by kernel_rfl) (by simp) ?_
                      refine AllReadyH.cons (o := { dst := some 22, op := Op.makeMap 55 none, type := 55, pos := "stamp.go:32", after := #[], guard := none }) rfl (fun K' hK => ?_) (AllReadyH.cons (o := { dst := some 23, op := Op.makeMap 56 none, type := 56, pos := "stamp.go:32", after := #[], guard := none }) rfl (fun K' hK => ?_) AllReadyH.nil)
                      · go_simp
                        replace HI := Lib.hid (HI.out.al (.map #[] 0))
                        refine hK.out _ _ trivial (fun hHeld => ?_)
                        clear hHeld hK K'
                        try simp only [Act.put, List.setIfInBounds_toArray, List.set_cons_zero, List.set_cons_succ]
                        generalize (u.alloc (.map #[] 0)) = v at HI ⊢
                        generalize u.heap.size = m6
                        exact H_m3_5_6_10.out v yb kb rb v0 v1 m6 HI
                      · go_simp
                        replace HI := Lib.hid (HI.out.al (.map #[] 0))
                        refine hK.out _ _ trivial (fun hHeld => ?_)
                        clear hHeld hK K'
                        try simp only [Act.put, List.setIfInBounds_toArray, List.set_cons_zero, List.set_cons_succ]
                        generalize (u.alloc (.map #[] 0)) = v at HI ⊢
                        generalize u.heap.size = m7
                        exact H_m3_5_7_10.out v yb kb rb v0 v1 m7 HI
                  · intro u yb rb v0 v1 m7 HI
                    refine wpAnyH_ready (rs := [6, 10]) (by kernel_rfl) (by simp) ?_
                    refine AllReadyH.cons (o := { dst := some 22, op := Op.makeMap 55 none, type := 55, pos := "stamp.go:32", after := #[], guard := none }) rfl (fun K' hK => ?_) (AllReadyH.cons (o := { dst := some 26, op := Op.makeSlice 37 (Operand.tmp 25) (Operand.tmp 25), type := 37, pos := "stamp.go:32", after := #[{ on := 9, ground := Ground.data }, { on := 9, ground := Ground.data }], guard := none }) rfl (fun K' hK => ?_) AllReadyH.nil)
                    · go_simp
                      replace HI := Lib.hid (HI.out.al (.map #[] 0))
                      refine hK.out _ _ trivial (fun hHeld => ?_)
                      clear hHeld hK K'
                      try simp only [Act.put, List.setIfInBounds_toArray, List.set_cons_zero, List.set_cons_succ]
                      generalize (u.alloc (.map #[] 0)) = v at HI ⊢
                      generalize u.heap.size = m6
                      exact H_m3_5_6_7.out v yb rb v0 v1 m6 m7 HI
                    · go_simp
                      replace HI := Lib.hid ((HI.out.al (.cells #[.int .i64 0, .int .i64 0, .int .i64 0, .int .i64 0, .int .i64 0, .int .i64 0, .int .i64 0, .int .i64 0, .int .i64 0, .int .i64 0, .int .i64 0, .int .i64 0] 24)).gk (rowAt_new _ _ _) HI.out.b.size)
                      refine hK.out _ _ trivial (fun hHeld => ?_)
                      clear hHeld hK K'
                      try simp only [Act.put, List.setIfInBounds_toArray, List.set_cons_zero, List.set_cons_succ]
                      generalize (u.alloc (.cells #[.int .i64 0, .int .i64 0, .int .i64 0, .int .i64 0, .int .i64 0, .int .i64 0, .int .i64 0, .int .i64 0, .int .i64 0, .int .i64 0, .int .i64 0, .int .i64 0] 24)) = v at HI ⊢
                      generalize u.heap.size = kb at HI ⊢
                      exact H_m3_5_7_10.out v yb kb rb v0 v1 m7 HI
                · intro u yb rb v0 v1 m6 HI
                  refine wpAnyH_ready (rs := [7, 10]) (by kernel_rfl) (by simp) ?_
                  refine AllReadyH.cons (o := { dst := some 23, op := Op.makeMap 56 none, type := 56, pos := "stamp.go:32", after := #[], guard := none }) rfl (fun K' hK => ?_) (AllReadyH.cons (o := { dst := some 26, op := Op.makeSlice 37 (Operand.tmp 25) (Operand.tmp 25), type := 37, pos := "stamp.go:32", after := #[{ on := 9, ground := Ground.data }, { on := 9, ground := Ground.data }], guard := none }) rfl (fun K' hK => ?_) AllReadyH.nil)
                  · go_simp
                    replace HI := Lib.hid (HI.out.al (.map #[] 0))
                    refine hK.out _ _ trivial (fun hHeld => ?_)
                    clear hHeld hK K'
                    try simp only [Act.put, List.setIfInBounds_toArray, List.set_cons_zero, List.set_cons_succ]
                    generalize (u.alloc (.map #[] 0)) = v at HI ⊢
                    generalize u.heap.size = m7
                    exact H_m3_5_6_7.out v yb rb v0 v1 m6 m7 HI
                  · go_simp
                    replace HI := Lib.hid ((HI.out.al (.cells #[.int .i64 0, .int .i64 0, .int .i64 0, .int .i64 0, .int .i64 0, .int .i64 0, .int .i64 0, .int .i64 0, .int .i64 0, .int .i64 0, .int .i64 0, .int .i64 0] 24)).gk (rowAt_new _ _ _) HI.out.b.size)
                    refine hK.out _ _ trivial (fun hHeld => ?_)
                    clear hHeld hK K'
                    try simp only [Act.put, List.setIfInBounds_toArray, List.set_cons_zero, List.set_cons_succ]
                    generalize (u.alloc (.cells #[.int .i64 0, .int .i64 0, .int .i64 0, .int .i64 0, .int .i64 0, .int .i64 0, .int .i64 0, .int .i64 0, .int .i64 0, .int .i64 0, .int .i64 0, .int .i64 0] 24)) = v at HI ⊢
                    generalize u.heap.size = kb at HI ⊢
                    exact H_m3_5_6_10.out v yb kb rb v0 v1 m6 HI
              · intro u kb rb v0 v1 m6 m7 HI
                refine wpAnyH_ready (rs := [3]) (by kernel_rfl) (by simp) ?_
                refine AllReadyH.cons (o := { dst := some 19, op := Op.makeSlice 51 (Operand.tmp 18) (Operand.tmp 18), type := 51, pos := "stamp.go:32", after := #[{ on := 2, ground := Ground.data }, { on := 2, ground := Ground.data }], guard := none }) rfl (fun K' hK => ?_) AllReadyH.nil
                go_simp
                replace HI := Lib.hid ((HI.out.al (.cells #[.bool false, .bool false, .bool false] 4)).gy (rowAt_new _ _ _) HI.out.b.size)
                refine hK.out _ _ trivial (fun hHeld => ?_)
                clear hHeld hK K'
                try simp only [Act.put, List.setIfInBounds_toArray, List.set_cons_zero, List.set_cons_succ]
                generalize (u.alloc (.cells #[.bool false, .bool false, .bool false] 4)) = v at HI ⊢
                generalize u.heap.size = yb at HI ⊢
                exact H_m3_5_6_7_10.out v yb kb rb v0 v1 m6 m7 HI
            · intro u yb kb m6 m7 HI
              refine wpAnyH_ready (rs := [5]) (by kernel_rfl) (by simp) ?_
              refine AllReadyH.cons (o := { dst := some 21, op := Op.call { callee := Callee.value (Operand.func 24), args := #[Operand.tmp 20, Operand.const (Value.int IntKind.i64 4), Operand.func 25], argTypes := #[36, 3, 54] }, type := 52, pos := "stamp.go:35", after := #[{ on := 4, ground := Ground.data }], guard := none }) rfl (fun K' hK => ?_) AllReadyH.nil
              go_simp
              go_at_call 24
              refine (split_c E _ HI.out.e).mono ?_
              rintro e v ⟨rb, v0, v1, rfl, _, hr, hr0, hr1, hb⟩
              replace HI := Lib.hid ((HI.out.past hb rfl rfl rfl rfl).gr (t := (rb, v0, v1)) ⟨hr, hr0, hr1⟩)
              clear hr hr0 hr1 hb
              refine hK.out _ _ trivial (fun hHeld => ?_)
              clear hHeld hK K'
              try simp only [Act.put, List.setIfInBounds_toArray, List.set_cons_zero, List.set_cons_succ]
              exact H_m3_5_6_7_10.out v yb kb rb v0 v1 m6 m7 HI
          · intro u yb kb rb v0 v1 m7 HI
            refine wpAnyH_ready (rs := [6]) (by kernel_rfl) (by simp) ?_
            refine AllReadyH.cons (o := { dst := some 22, op := Op.makeMap 55 none, type := 55, pos := "stamp.go:32", after := #[], guard := none }) rfl (fun K' hK => ?_) AllReadyH.nil
            go_simp
            replace HI := Lib.hid (HI.out.al (.map #[] 0))
            refine hK.out _ _ trivial (fun hHeld => ?_)
            clear hHeld hK K'
            try simp only [Act.put, List.setIfInBounds_toArray, List.set_cons_zero, List.set_cons_succ]
            generalize (u.alloc (.map #[] 0)) = v at HI ⊢
            generalize u.heap.size = m6
            exact H_m3_5_6_7_10.out v yb kb rb v0 v1 m6 m7 HI
        · intro u yb kb rb v0 v1 m6 HI
          refine wpAnyH_ready (rs := [7]) (by kernel_rfl) (by simp) ?_
          refine AllReadyH.cons (o := { dst := some 23, op := Op.makeMap 56 none, type := 56, pos := "stamp.go:32", after := #[], guard := none }) rfl (fun K' hK => ?_) AllReadyH.nil
          go_simp
          replace HI := Lib.hid (HI.out.al (.map #[] 0))
          refine hK.out _ _ trivial (fun hHeld => ?_)
          clear hHeld hK K'
          try simp only [Act.put, List.setIfInBounds_toArray, List.set_cons_zero, List.set_cons_succ]
          generalize (u.alloc (.map #[] 0)) = v at HI ⊢
          generalize u.heap.size = m7
          exact H_m3_5_6_7_10.out v yb kb rb v0 v1 m6 m7 HI
      · intro u yb rb v0 v1 m6 m7 HI
        refine wpAnyH_ready (rs := [10]) (by kernel_rfl) (by simp) ?_
        refine AllReadyH.cons (o := { dst := some 26, op := Op.makeSlice 37 (Operand.tmp 25) (Operand.tmp 25), type := 37, pos := "stamp.go:32", after := #[{ on := 9, ground := Ground.data }, { on := 9, ground := Ground.data }], guard := none }) rfl (fun K' hK => ?_) AllReadyH.nil
        go_simp
        replace HI := Lib.hid ((HI.out.al (.cells #[.int .i64 0, .int .i64 0, .int .i64 0, .int .i64 0, .int .i64 0, .int .i64 0, .int .i64 0, .int .i64 0, .int .i64 0, .int .i64 0, .int .i64 0, .int .i64 0] 24)).gk (rowAt_new _ _ _) HI.out.b.size)
        refine hK.out _ _ trivial (fun hHeld => ?_)
        clear hHeld hK K'
        try simp only [Act.put, List.setIfInBounds_toArray, List.set_cons_zero, List.set_cons_succ]
        generalize (u.alloc (.cells #[.int .i64 0, .int .i64 0, .int .i64 0, .int .i64 0, .int .i64 0, .int .i64 0, .int .i64 0, .int .i64 0, .int .i64 0, .int .i64 0, .int .i64 0, .int .i64 0] 24)) = v at HI ⊢
        generalize u.heap.size = kb at HI ⊢
        exact H_m3_5_6_7_10.out v yb kb rb v0 v1 m6 m7 HI
    · intro u yb kb rb v0 v1 m6 m7 HI
      refine wpAnyH_ready (rs := [11]) (by kernel_rfl) (by simp) ?_
      refine AllReadyH.cons (o := { dst := some 27, op := Op.build 59 #[(0, Operand.tmp 16), (1, Operand.tmp 19), (2, Operand.tmp 21), (6, Operand.tmp 22), (7, Operand.tmp 23), (8, Operand.tmp 26)], type := 59, pos := "stamp.go:32", after := #[{ on := 0, ground := Ground.data }, { on := 3, ground := Ground.data }, { on := 5, ground := Ground.data }, { on := 6, ground := Ground.data }, { on := 7, ground := Ground.data }, { on := 10, ground := Ground.data }], guard := none }) rfl (fun K' hK => ?_) AllReadyH.nil
      go_simp
      refine hK.out _ _ trivial (fun hHeld => ?_)
      clear hK K'
      try simp only [Act.put, List.setIfInBounds_toArray, List.set_cons_zero, List.set_cons_succ]
      refine wpAnyH_ready (rs := [12]) (by kernel_rfl) (by simp) ?_
      refine AllReadyH.cons (o := { dst := some 28, op := Op.box 59 (Operand.tmp 27), type := 50, pos := "stamp.go:32", after := #[{ on := 11, ground := Ground.data }], guard := none }) rfl (fun K' hK => ?_) AllReadyH.nil
      go_simp
      refine hK.out _ _ trivial (fun hHeld => ?_)
      clear hK K'
      try simp only [Act.put, List.setIfInBounds_toArray, List.set_cons_zero, List.set_cons_succ]
      refine wpAnyH_ready (rs := [13]) (by kernel_rfl) (by simp) ?_
      refine AllReadyH.cons (o := { dst := some 6, op := Op.assign (Operand.tmp 28), type := 50, pos := "stamp.go:32", after := #[{ on := 12, ground := Ground.data }, { on := 5, ground := Ground.chain }, { on := 0, ground := Ground.phase }, { on := 1, ground := Ground.phase }, { on := 2, ground := Ground.phase }, { on := 3, ground := Ground.phase }, { on := 4, ground := Ground.phase }, { on := 5, ground := Ground.phase }, { on := 6, ground := Ground.phase }, { on := 7, ground := Ground.phase }, { on := 8, ground := Ground.phase }, { on := 9, ground := Ground.phase }, { on := 10, ground := Ground.phase }, { on := 11, ground := Ground.phase }, { on := 12, ground := Ground.phase }], guard := none }) rfl (fun K' hK => ?_) AllReadyH.nil
      go_simp
      refine hK.out _ _ trivial (fun hHeld => ?_)
      clear hK K'
      try simp only [Act.put, List.setIfInBounds_toArray, List.set_cons_zero, List.set_cons_succ]
      refine wpAnyH_done (by kernel_rfl) ?_ _
      clear hHeld
      go_wp2_with fail
      go_meet
      case rel => exact ⟨_, yb, kb, rb, v0, v1, .map (some m6), .map (some m7), rfl, HI.out.al _, HI.out.b.size, (rowAt_new _ _ _).trans (by kernel_rfl), rowAt_lt (HI.out.y _ rfl).1, rowAt_lt (HI.out.k _ rfl).1, rowAt_lt (HI.out.r _ rfl).1, fun g hg => ((HI.out.r _ rfl).2.1.1.lt g hg).2, fun g hg => ((HI.out.r _ rfl).2.2.1.lt g hg).2⟩
  case rest =>
    obtain ⟨S, y, k, R, v0, v1, m1, m2, hs, hI, hwS, hS, ly, lk, lR, l0, l1⟩ := hcut
    subst hs
    clear HI
    have hy := hI.y _ rfl
    have hk := hI.k _ rfl
    have hr := hI.r _ rfl
    obtain ⟨g0, p0, hv0, hp0, hz0, hb0, hc0⟩ := lst_parts hr.2.1 (by simp)
    obtain ⟨g1, p1, hv1, hp1, hz1, hb1, hc1⟩ := lst_parts hr.2.2 (by simp)
    subst hv0 hv1
    have HN : Hid (E ≠ y ∧ R ≠ y ∧ S ≠ y ∧ k ≠ y ∧ g0 ≠ y ∧ g1 ≠ y ∧ w.heap.size ≤ y) := Lib.hid ⟨row_ne hI.e hy.1 (by decide), row_ne hr.1 hy.1 (by simp), by omega, row_ne hk.1 hy.1 (by simp), cell_ne (hc0 0 0 rfl) (rowAt_cell hy.1 0) (by simp), cell_ne (hc1 0 1 rfl) (rowAt_cell hy.1 0) (by simp), hy.2⟩
    have HL : Hid (Lp w E y R S k g0 p0 g1 p1 #[.bool false, .bool false, .bool false] (SA0 E y R k m1 m2) wc) := Lib.hid ⟨hI.e, hy.1, hr.1, hc0 0 0 rfl, hc0 1 2 rfl, hc1 0 1 rfl, hS.trans (by kernel_rfl), hk.1, hI.b, hz0, hz1⟩
    have hp0 : 2 ≤ p0 := hp0
    have hp1 : 1 ≤ p1 := hp1
    have hkw := hk.2
    clear hI hS hy hr hk hc0 hc1 hz0 hz1 l0 l1
    go_wp2
    refine wp_loop_rounds 4 ?_
    rw [rounds_succ]
    obtain ⟨d0, hW⟩ : ∃ W, W = wc := ⟨_, rfl⟩
    rw [← hW] at HL ⊢
    clear hW
    have c0 : d0.cell? ⟨E, 0, none⟩ = some (.int .i64 0) := rowAt_cell HL.out.e 0
    have c1 : d0.cell? ⟨E, 1, none⟩ = some (.int .i64 5) := rowAt_cell HL.out.e 1
    have c2 : d0.cell? ⟨E, 2, none⟩ = some (.int .i64 0) := rowAt_cell HL.out.e 2
    have c3 : d0.cell? ⟨E, 3, none⟩ = some (.int .i64 0) := rowAt_cell HL.out.e 3
    have c4 : d0.cell? ⟨E, 4, none⟩ = some (.int .i64 1) := rowAt_cell HL.out.e 4
    have c5 : d0.cell? ⟨E, 5, none⟩ = some (.bool false) := rowAt_cell HL.out.e 5
    have c6 : d0.cell? ⟨E, 6, none⟩ = some (.int .i64 0) := rowAt_cell HL.out.e 6
    have c7 : d0.cell? ⟨E, 7, none⟩ = some (.int .i64 0) := rowAt_cell HL.out.e 7
    have c8 : d0.cell? ⟨E, 8, none⟩ = some (.int .i64 1) := rowAt_cell HL.out.e 8
    go_wp2
    clear c0 c1 c2 c3 c4 c5 c6 c7 c8
    have HX : Hid (rowAt (d0.alloc (.cells #[.int .i64 0, .int .i64 5, .int .i64 0, .int .i64 0, .int .i64 1, .bool false, .int .i64 0, .int .i64 0, .int .i64 1] 44)) d0.heap.size = some #[.int .i64 0, .int .i64 5, .int .i64 0, .int .i64 0, .int .i64 1, .bool false, .int .i64 0, .int .i64 0, .int .i64 1]) := Lib.hid (rowAt_new _ _ _)
    have hxy : y < d0.heap.size := rowAt_lt HL.out.yy
    replace HL := Lib.hid (HL.out.past ((Below.refl d0.heap.size d0).alloc (Nat.le_refl _) (.cells #[.int .i64 0, .int .i64 5, .int .i64 0, .int .i64 0, .int .i64 1, .bool false, .int .i64 0, .int .i64 0, .int .i64 1] 44)) rfl rfl rfl rfl)
    generalize (d0.alloc (.cells #[.int .i64 0, .int .i64 5, .int .i64 0, .int .i64 0, .int .i64 1, .bool false, .int .i64 0, .int .i64 0, .int .i64 1] 44)) = V at HL HX ⊢
    generalize d0.heap.size = x at HX hxy ⊢
    refine wp_region_held_drew (S := (fun w' => w'.cell? ⟨x, 0, none⟩ = some (.int .i64 0) ∧ w'.cell? ⟨x, 1, none⟩ = some (.int .i64 5) ∧ w'.cell? ⟨x, 2, none⟩ = some (.int .i64 0) ∧ w'.cell? ⟨x, 3, none⟩ = some (.int .i64 0) ∧ w'.cell? ⟨x, 4, none⟩ = some (.int .i64 1) ∧ w'.cell? ⟨x, 5, none⟩ = some (.bool false) ∧ w'.cell? ⟨x, 6, none⟩ = some (.int .i64 0) ∧ w'.cell? ⟨x, 7, none⟩ = some (.int .i64 0) ∧ w'.cell? ⟨x, 8, none⟩ = some (.int .i64 1) ∧ w'.cell? ⟨S, 1, none⟩ = some (.slice (some ⟨y, 0, none⟩) 3 3))) (by kernel_rfl) ⟨rowAt_cell HX.out 0, rowAt_cell HX.out 1, rowAt_cell HX.out 2, rowAt_cell HX.out 3, rowAt_cell HX.out 4, rowAt_cell HX.out 5, rowAt_cell HX.out 6, rowAt_cell HX.out 7, rowAt_cell HX.out 8, rowAt_cell HL.out.st 1⟩ (fun hHeld => ?_)
    replace HX : Hid (rowAt V.drew x = some #[.int .i64 0, .int .i64 5, .int .i64 0, .int .i64 0, .int .i64 1, .bool false, .int .i64 0, .int .i64 0, .int .i64 1]) := HX
    replace HL := Lib.hid (HL.out.past (Below.refl V.heap.size V).drew rfl rfl rfl rfl)
    generalize V.drew = v at hHeld HX HL ⊢
    refine wpAnyH_take (i := 0) (oi := { dst := some 36, op := Op.move (Operand.tmp 6), type := 50, pos := "stamp.go:41", after := #[], guard := none }) (v := ?_) rfl (by kernel_rfl) (by kernel_rfl) (by kernel_rfl) (fun _ _ _ h => h) (Or.inl ⟨by rfl, ?_⟩) (by assumption) ?_
    rotate_left
    · (intro w9 hSw; (try dsimp only at hSw); go_split_ands; go_simp; with_reducible rfl)
    try simp only [Act.put, List.setIfInBounds_toArray, List.set_cons_zero, List.set_cons_succ]
    refine wpAnyH_take (i := 1) (oi := { dst := some 37, op := Op.nilCheck (Operand.tmp 36), type := 0, pos := "stamp.go:41", after := #[{ on := 0, ground := Ground.data }], guard := none }) (v := ?_) rfl (by kernel_rfl) (by kernel_rfl) (by kernel_rfl) (fun _ _ _ h => h) (Or.inl ⟨by rfl, ?_⟩) (by assumption) ?_
    rotate_left
    · (intro w9 hSw; (try dsimp only at hSw); go_split_ands; go_simp; with_reducible rfl)
    try simp only [Act.put, List.setIfInBounds_toArray, List.set_cons_zero, List.set_cons_succ]
    refine wpAnyH_take (i := 2) (oi := { dst := some 38, op := Op.fieldAddr 59 (Operand.tmp 37) 1, type := 0, pos := "stamp.go:41", after := #[{ on := 1, ground := Ground.data }], guard := none }) (v := ?_) rfl (by kernel_rfl) (by kernel_rfl) (by kernel_rfl) (fun _ _ _ h => h) (Or.inl ⟨by rfl, ?_⟩) (by assumption) ?_
    rotate_left
    · (intro w9 hSw; (try dsimp only at hSw); go_split_ands; go_simp; with_reducible rfl)
    try simp only [Act.put, List.setIfInBounds_toArray, List.set_cons_zero, List.set_cons_succ]
    refine wpAnyH_take (i := 3) (oi := { dst := some 39, op := Op.load 51 (Operand.tmp 38), type := 51, pos := "stamp.go:41", after := #[{ on := 2, ground := Ground.data }], guard := none }) (v := ?_) rfl (by kernel_rfl) (by kernel_rfl) (by kernel_rfl) (fun _ _ _ h => h) (Or.inl ⟨by rfl, ?_⟩) (by assumption) ?_
    rotate_left
    · (intro w9 hSw; (try dsimp only at hSw); go_split_ands; go_simp; with_reducible rfl)
    try simp only [Act.put, List.setIfInBounds_toArray, List.set_cons_zero, List.set_cons_succ]
    refine wpAnyH_take (i := 4) (oi := { dst := some 40, op := Op.move (Operand.tmp 7), type := 3, pos := "stamp.go:41", after := #[], guard := none }) (v := ?_) rfl (by kernel_rfl) (by kernel_rfl) (by kernel_rfl) (fun _ _ _ h => h) (Or.inl ⟨by rfl, ?_⟩) (by assumption) ?_
    rotate_left
    · (intro w9 hSw; (try dsimp only at hSw); go_split_ands; go_simp; with_reducible rfl)
    try simp only [Act.put, List.setIfInBounds_toArray, List.set_cons_zero, List.set_cons_succ]
    refine wpAnyH_take (i := 5) (oi := { dst := some 41, op := Op.load 44 (Operand.tmp 8), type := 44, pos := "stamp.go:41", after := #[], guard := none }) (v := ?_) rfl (by kernel_rfl) (by kernel_rfl) (by kernel_rfl) (fun _ _ _ h => h) (Or.inl ⟨by rfl, ?_⟩) (by assumption) ?_
    rotate_left
    · (intro w9 hSw; (try dsimp only at hSw); go_split_ands; go_simp; with_reducible rfl)
    try simp only [Act.put, List.setIfInBounds_toArray, List.set_cons_zero, List.set_cons_succ]
    refine wpAnyH_take (i := 6) (oi := { dst := some 42, op := Op.move (Operand.tmp 1), type := 45, pos := "stamp.go:41", after := #[], guard := none }) (v := ?_) rfl (by kernel_rfl) (by kernel_rfl) (by kernel_rfl) (fun _ _ _ h => h) (Or.inl ⟨by rfl, ?_⟩) (by assumption) ?_
    rotate_left
    · (intro w9 hSw; (try dsimp only at hSw); go_split_ands; go_simp; with_reducible rfl)
    try simp only [Act.put, List.setIfInBounds_toArray, List.set_cons_zero, List.set_cons_succ]
    refine wpAnyH_ready (rs := [7]) (by kernel_rfl) (by simp) ?_
    refine AllReadyH.cons (o := { dst := some 43, op := Op.call { callee := Callee.value (Operand.func 26), args := #[Operand.tmp 41, Operand.tmp 42], argTypes := #[44, 45] }, type := 4, pos := "stamp.go:41", after := #[{ on := 5, ground := Ground.data }, { on := 6, ground := Ground.data }], guard := none }) rfl (fun K' hK => ?_) AllReadyH.nil
    go_simp
    go_at_call 26
    refine (sync_0 f _).mono ?_
    rintro e e0 ⟨rfl, hb⟩
    replace HX := Lib.hid (rowAt_below HX.out hb rfl)
    replace HL := Lib.hid (HL.out.past hb rfl rfl rfl rfl)
    clear hb
    refine hK.out _ _ ⟨rowAt_cell HX.out 0, rowAt_cell HX.out 1, rowAt_cell HX.out 2, rowAt_cell HX.out 3, rowAt_cell HX.out 4, rowAt_cell HX.out 5, rowAt_cell HX.out 6, rowAt_cell HX.out 7, rowAt_cell HX.out 8, rowAt_cell HL.out.st 1⟩ (fun hHeld => ?_)
    clear hK K'
    try simp only [Act.put, List.setIfInBounds_toArray, List.set_cons_zero, List.set_cons_succ]
    refine wpAnyH_take (i := 8) (oi := { dst := some 44, op := Op.indexAddr 51 (Operand.tmp 39) (Operand.tmp 40), type := 0, pos := "stamp.go:41", after := #[{ on := 3, ground := Ground.data }, { on := 4, ground := Ground.data }, { on := 0, ground := Ground.phase }, { on := 1, ground := Ground.phase }, { on := 2, ground := Ground.phase }, { on := 3, ground := Ground.phase }, { on := 4, ground := Ground.phase }, { on := 5, ground := Ground.phase }, { on := 6, ground := Ground.phase }, { on := 7, ground := Ground.phase }], guard := none }) (v := ?_) rfl (by kernel_rfl) (by kernel_rfl) (by kernel_rfl) (fun _ _ _ h => h) (Or.inl ⟨by rfl, ?_⟩) (by assumption) ?_
    rotate_left
    · (intro w9 hSw; (try dsimp only at hSw); go_split_ands; go_simp; with_reducible rfl)
    try simp only [Act.put, List.setIfInBounds_toArray, List.set_cons_zero, List.set_cons_succ]
    refine wpAnyH_ready (rs := [9]) (by kernel_rfl) (by simp) ?_
    refine AllReadyH.cons (o := { dst := none, op := Op.store 4 (Operand.tmp 44) (Operand.tmp 43), type := 0, pos := "stamp.go:41", after := #[{ on := 8, ground := Ground.data }, { on := 7, ground := Ground.data }, { on := 7, ground := Ground.chain }, { on := 0, ground := Ground.phase }, { on := 1, ground := Ground.phase }, { on := 2, ground := Ground.phase }, { on := 3, ground := Ground.phase }, { on := 4, ground := Ground.phase }, { on := 5, ground := Ground.phase }, { on := 6, ground := Ground.phase }, { on := 7, ground := Ground.phase }], guard := none }) rfl (fun K' hK => ?_) AllReadyH.nil
    have z0 : e0.cell? ⟨y, 0, none⟩ = some (.bool false) := rowAt_cell HL.out.yy 0
    have z1 : e0.frozen? ⟨y, 0, none⟩ = false := rowAt_frz HL.out.yy 0
    go_simp
    clear z0 z1
    replace HX : Hid (rowAt (e0.setCell ⟨y, 0, none⟩ (.bool true)) x = some #[.int .i64 0, .int .i64 5, .int .i64 0, .int .i64 0, .int .i64 1, .bool false, .int .i64 0, .int .i64 0, .int .i64 1]) := Lib.hid (rowAt_set_far HX.out (by omega) _ _)
    replace HL : Hid (Lp w E y R S k g0 p0 g1 p1 #[.bool true, .bool false, .bool false] (SA0 E y R k m1 m2) (e0.setCell ⟨y, 0, none⟩ (.bool true))) := Lib.hid (HL.out.sety HN.out.2.2.2.2.2.2 HN.out.1 HN.out.2.1 HN.out.2.2.1 HN.out.2.2.2.1 HN.out.2.2.2.2.1 HN.out.2.2.2.2.2.1 rfl)
    refine hK.out _ _ ⟨rowAt_cell HX.out 0, rowAt_cell HX.out 1, rowAt_cell HX.out 2, rowAt_cell HX.out 3, rowAt_cell HX.out 4, rowAt_cell HX.out 5, rowAt_cell HX.out 6, rowAt_cell HX.out 7, rowAt_cell HX.out 8, rowAt_cell HL.out.st 1⟩ (fun hHeld => ?_)
    clear hK K'
    try simp only [Act.put, List.setIfInBounds_toArray, List.set_cons_zero, List.set_cons_succ]
    refine wpAnyH_done (by kernel_rfl) ?_ _
    generalize (e0.setCell ⟨y, 0, none⟩ (.bool true)) = f0 at hHeld HX HL ⊢
    clear hHeld HX hxy
    skip
    go_wp2
    rw [rounds_succ]
    obtain ⟨d1, hW⟩ : ∃ W, W = f0 := ⟨_, rfl⟩
    rw [← hW] at HL ⊢
    clear hW
    have c0 : d1.cell? ⟨E, 9, none⟩ = some (.int .i64 1) := rowAt_cell HL.out.e 9
    have c1 : d1.cell? ⟨E, 10, none⟩ = some (.int .i64 7) := rowAt_cell HL.out.e 10
    have c2 : d1.cell? ⟨E, 11, none⟩ = some (.int .i64 0) := rowAt_cell HL.out.e 11
    have c3 : d1.cell? ⟨E, 12, none⟩ = some (.int .i64 0) := rowAt_cell HL.out.e 12
    have c4 : d1.cell? ⟨E, 13, none⟩ = some (.int .i64 0) := rowAt_cell HL.out.e 13
    have c5 : d1.cell? ⟨E, 14, none⟩ = some (.bool false) := rowAt_cell HL.out.e 14
    have c6 : d1.cell? ⟨E, 15, none⟩ = some (.int .i64 0) := rowAt_cell HL.out.e 15
    have c7 : d1.cell? ⟨E, 16, none⟩ = some (.int .i64 0) := rowAt_cell HL.out.e 16
    have c8 : d1.cell? ⟨E, 17, none⟩ = some (.int .i64 2) := rowAt_cell HL.out.e 17
    go_wp2
    clear c0 c1 c2 c3 c4 c5 c6 c7 c8
    have HX : Hid (rowAt (d1.alloc (.cells #[.int .i64 1, .int .i64 7, .int .i64 0, .int .i64 0, .int .i64 0, .bool false, .int .i64 0, .int .i64 0, .int .i64 2] 44)) d1.heap.size = some #[.int .i64 1, .int .i64 7, .int .i64 0, .int .i64 0, .int .i64 0, .bool false, .int .i64 0, .int .i64 0, .int .i64 2]) := Lib.hid (rowAt_new _ _ _)
    have hxy : y < d1.heap.size := rowAt_lt HL.out.yy
    replace HL := Lib.hid (HL.out.past ((Below.refl d1.heap.size d1).alloc (Nat.le_refl _) (.cells #[.int .i64 1, .int .i64 7, .int .i64 0, .int .i64 0, .int .i64 0, .bool false, .int .i64 0, .int .i64 0, .int .i64 2] 44)) rfl rfl rfl rfl)
    generalize (d1.alloc (.cells #[.int .i64 1, .int .i64 7, .int .i64 0, .int .i64 0, .int .i64 0, .bool false, .int .i64 0, .int .i64 0, .int .i64 2] 44)) = V at HL HX ⊢
    generalize d1.heap.size = x at HX hxy ⊢
    refine wp_region_held_drew (S := (fun w' => w'.cell? ⟨x, 0, none⟩ = some (.int .i64 1) ∧ w'.cell? ⟨x, 1, none⟩ = some (.int .i64 7) ∧ w'.cell? ⟨x, 2, none⟩ = some (.int .i64 0) ∧ w'.cell? ⟨x, 3, none⟩ = some (.int .i64 0) ∧ w'.cell? ⟨x, 4, none⟩ = some (.int .i64 0) ∧ w'.cell? ⟨x, 5, none⟩ = some (.bool false) ∧ w'.cell? ⟨x, 6, none⟩ = some (.int .i64 0) ∧ w'.cell? ⟨x, 7, none⟩ = some (.int .i64 0) ∧ w'.cell? ⟨x, 8, none⟩ = some (.int .i64 2) ∧ w'.cell? ⟨S, 1, none⟩ = some (.slice (some ⟨y, 0, none⟩) 3 3))) (by kernel_rfl) ⟨rowAt_cell HX.out 0, rowAt_cell HX.out 1, rowAt_cell HX.out 2, rowAt_cell HX.out 3, rowAt_cell HX.out 4, rowAt_cell HX.out 5, rowAt_cell HX.out 6, rowAt_cell HX.out 7, rowAt_cell HX.out 8, rowAt_cell HL.out.st 1⟩ (fun hHeld => ?_)
    replace HX : Hid (rowAt V.drew x = some #[.int .i64 1, .int .i64 7, .int .i64 0, .int .i64 0, .int .i64 0, .bool false, .int .i64 0, .int .i64 0, .int .i64 2]) := HX
    replace HL := Lib.hid (HL.out.past (Below.refl V.heap.size V).drew rfl rfl rfl rfl)
    generalize V.drew = v at hHeld HX HL ⊢
    refine wpAnyH_take (i := 0) (oi := { dst := some 36, op := Op.move (Operand.tmp 6), type := 50, pos := "stamp.go:41", after := #[], guard := none }) (v := ?_) rfl (by kernel_rfl) (by kernel_rfl) (by kernel_rfl) (fun _ _ _ h => h) (Or.inl ⟨by rfl, ?_⟩) (by assumption) ?_
    rotate_left
    · (intro w9 hSw; (try dsimp only at hSw); go_split_ands; go_simp; with_reducible rfl)
    try simp only [Act.put, List.setIfInBounds_toArray, List.set_cons_zero, List.set_cons_succ]
    refine wpAnyH_take (i := 1) (oi := { dst := some 37, op := Op.nilCheck (Operand.tmp 36), type := 0, pos := "stamp.go:41", after := #[{ on := 0, ground := Ground.data }], guard := none }) (v := ?_) rfl (by kernel_rfl) (by kernel_rfl) (by kernel_rfl) (fun _ _ _ h => h) (Or.inl ⟨by rfl, ?_⟩) (by assumption) ?_
    rotate_left
    · (intro w9 hSw; (try dsimp only at hSw); go_split_ands; go_simp; with_reducible rfl)
    try simp only [Act.put, List.setIfInBounds_toArray, List.set_cons_zero, List.set_cons_succ]
    refine wpAnyH_take (i := 2) (oi := { dst := some 38, op := Op.fieldAddr 59 (Operand.tmp 37) 1, type := 0, pos := "stamp.go:41", after := #[{ on := 1, ground := Ground.data }], guard := none }) (v := ?_) rfl (by kernel_rfl) (by kernel_rfl) (by kernel_rfl) (fun _ _ _ h => h) (Or.inl ⟨by rfl, ?_⟩) (by assumption) ?_
    rotate_left
    · (intro w9 hSw; (try dsimp only at hSw); go_split_ands; go_simp; with_reducible rfl)
    try simp only [Act.put, List.setIfInBounds_toArray, List.set_cons_zero, List.set_cons_succ]
    refine wpAnyH_take (i := 3) (oi := { dst := some 39, op := Op.load 51 (Operand.tmp 38), type := 51, pos := "stamp.go:41", after := #[{ on := 2, ground := Ground.data }], guard := none }) (v := ?_) rfl (by kernel_rfl) (by kernel_rfl) (by kernel_rfl) (fun _ _ _ h => h) (Or.inl ⟨by rfl, ?_⟩) (by assumption) ?_
    rotate_left
    · (intro w9 hSw; (try dsimp only at hSw); go_split_ands; go_simp; with_reducible rfl)
    try simp only [Act.put, List.setIfInBounds_toArray, List.set_cons_zero, List.set_cons_succ]
    refine wpAnyH_take (i := 4) (oi := { dst := some 40, op := Op.move (Operand.tmp 7), type := 3, pos := "stamp.go:41", after := #[], guard := none }) (v := ?_) rfl (by kernel_rfl) (by kernel_rfl) (by kernel_rfl) (fun _ _ _ h => h) (Or.inl ⟨by rfl, ?_⟩) (by assumption) ?_
    rotate_left
    · (intro w9 hSw; (try dsimp only at hSw); go_split_ands; go_simp; with_reducible rfl)
    try simp only [Act.put, List.setIfInBounds_toArray, List.set_cons_zero, List.set_cons_succ]
    refine wpAnyH_take (i := 5) (oi := { dst := some 41, op := Op.load 44 (Operand.tmp 8), type := 44, pos := "stamp.go:41", after := #[], guard := none }) (v := ?_) rfl (by kernel_rfl) (by kernel_rfl) (by kernel_rfl) (fun _ _ _ h => h) (Or.inl ⟨by rfl, ?_⟩) (by assumption) ?_
    rotate_left
    · (intro w9 hSw; (try dsimp only at hSw); go_split_ands; go_simp; with_reducible rfl)
    try simp only [Act.put, List.setIfInBounds_toArray, List.set_cons_zero, List.set_cons_succ]
    refine wpAnyH_take (i := 6) (oi := { dst := some 42, op := Op.move (Operand.tmp 1), type := 45, pos := "stamp.go:41", after := #[], guard := none }) (v := ?_) rfl (by kernel_rfl) (by kernel_rfl) (by kernel_rfl) (fun _ _ _ h => h) (Or.inl ⟨by rfl, ?_⟩) (by assumption) ?_
    rotate_left
    · (intro w9 hSw; (try dsimp only at hSw); go_split_ands; go_simp; with_reducible rfl)
    try simp only [Act.put, List.setIfInBounds_toArray, List.set_cons_zero, List.set_cons_succ]
    refine wpAnyH_ready (rs := [7]) (by kernel_rfl) (by simp) ?_
    refine AllReadyH.cons (o := { dst := some 43, op := Op.call { callee := Callee.value (Operand.func 26), args := #[Operand.tmp 41, Operand.tmp 42], argTypes := #[44, 45] }, type := 4, pos := "stamp.go:41", after := #[{ on := 5, ground := Ground.data }, { on := 6, ground := Ground.data }], guard := none }) rfl (fun K' hK => ?_) AllReadyH.nil
    go_simp
    go_at_call 26
    refine (sync_1 f _).mono ?_
    rintro e e1 ⟨rfl, hb⟩
    replace HX := Lib.hid (rowAt_below HX.out hb rfl)
    replace HL := Lib.hid (HL.out.past hb rfl rfl rfl rfl)
    clear hb
    refine hK.out _ _ ⟨rowAt_cell HX.out 0, rowAt_cell HX.out 1, rowAt_cell HX.out 2, rowAt_cell HX.out 3, rowAt_cell HX.out 4, rowAt_cell HX.out 5, rowAt_cell HX.out 6, rowAt_cell HX.out 7, rowAt_cell HX.out 8, rowAt_cell HL.out.st 1⟩ (fun hHeld => ?_)
    clear hK K'
    try simp only [Act.put, List.setIfInBounds_toArray, List.set_cons_zero, List.set_cons_succ]
    refine wpAnyH_take (i := 8) (oi := { dst := some 44, op := Op.indexAddr 51 (Operand.tmp 39) (Operand.tmp 40), type := 0, pos := "stamp.go:41", after := #[{ on := 3, ground := Ground.data }, { on := 4, ground := Ground.data }, { on := 0, ground := Ground.phase }, { on := 1, ground := Ground.phase }, { on := 2, ground := Ground.phase }, { on := 3, ground := Ground.phase }, { on := 4, ground := Ground.phase }, { on := 5, ground := Ground.phase }, { on := 6, ground := Ground.phase }, { on := 7, ground := Ground.phase }], guard := none }) (v := ?_) rfl (by kernel_rfl) (by kernel_rfl) (by kernel_rfl) (fun _ _ _ h => h) (Or.inl ⟨by rfl, ?_⟩) (by assumption) ?_
    rotate_left
    · (intro w9 hSw; (try dsimp only at hSw); go_split_ands; go_simp; with_reducible rfl)
    try simp only [Act.put, List.setIfInBounds_toArray, List.set_cons_zero, List.set_cons_succ]
    refine wpAnyH_ready (rs := [9]) (by kernel_rfl) (by simp) ?_
    refine AllReadyH.cons (o := { dst := none, op := Op.store 4 (Operand.tmp 44) (Operand.tmp 43), type := 0, pos := "stamp.go:41", after := #[{ on := 8, ground := Ground.data }, { on := 7, ground := Ground.data }, { on := 7, ground := Ground.chain }, { on := 0, ground := Ground.phase }, { on := 1, ground := Ground.phase }, { on := 2, ground := Ground.phase }, { on := 3, ground := Ground.phase }, { on := 4, ground := Ground.phase }, { on := 5, ground := Ground.phase }, { on := 6, ground := Ground.phase }, { on := 7, ground := Ground.phase }], guard := none }) rfl (fun K' hK => ?_) AllReadyH.nil
    have z0 : e1.cell? ⟨y, 1, none⟩ = some (.bool false) := rowAt_cell HL.out.yy 1
    have z1 : e1.frozen? ⟨y, 1, none⟩ = false := rowAt_frz HL.out.yy 1
    go_simp
    clear z0 z1
    replace HX : Hid (rowAt (e1.setCell ⟨y, 1, none⟩ (.bool false)) x = some #[.int .i64 1, .int .i64 7, .int .i64 0, .int .i64 0, .int .i64 0, .bool false, .int .i64 0, .int .i64 0, .int .i64 2]) := Lib.hid (rowAt_set_far HX.out (by omega) _ _)
    replace HL : Hid (Lp w E y R S k g0 p0 g1 p1 #[.bool true, .bool false, .bool false] (SA0 E y R k m1 m2) (e1.setCell ⟨y, 1, none⟩ (.bool false))) := Lib.hid (HL.out.sety HN.out.2.2.2.2.2.2 HN.out.1 HN.out.2.1 HN.out.2.2.1 HN.out.2.2.2.1 HN.out.2.2.2.2.1 HN.out.2.2.2.2.2.1 rfl)
    refine hK.out _ _ ⟨rowAt_cell HX.out 0, rowAt_cell HX.out 1, rowAt_cell HX.out 2, rowAt_cell HX.out 3, rowAt_cell HX.out 4, rowAt_cell HX.out 5, rowAt_cell HX.out 6, rowAt_cell HX.out 7, rowAt_cell HX.out 8, rowAt_cell HL.out.st 1⟩ (fun hHeld => ?_)
    clear hK K'
    try simp only [Act.put, List.setIfInBounds_toArray, List.set_cons_zero, List.set_cons_succ]
    refine wpAnyH_done (by kernel_rfl) ?_ _
    generalize (e1.setCell ⟨y, 1, none⟩ (.bool false)) = f1 at hHeld HX HL ⊢
    clear hHeld HX hxy
    skip
    go_wp2
    rw [rounds_succ]
    obtain ⟨d2, hW⟩ : ∃ W, W = f1 := ⟨_, rfl⟩
    rw [← hW] at HL ⊢
    clear hW
    have c0 : d2.cell? ⟨E, 18, none⟩ = some (.int .i64 0) := rowAt_cell HL.out.e 18
    have c1 : d2.cell? ⟨E, 19, none⟩ = some (.int .i64 7) := rowAt_cell HL.out.e 19
    have c2 : d2.cell? ⟨E, 20, none⟩ = some (.int .i64 0) := rowAt_cell HL.out.e 20
    have c3 : d2.cell? ⟨E, 21, none⟩ = some (.int .i64 0) := rowAt_cell HL.out.e 21
    have c4 : d2.cell? ⟨E, 22, none⟩ = some (.int .i64 0) := rowAt_cell HL.out.e 22
    have c5 : d2.cell? ⟨E, 23, none⟩ = some (.bool false) := rowAt_cell HL.out.e 23
    have c6 : d2.cell? ⟨E, 24, none⟩ = some (.int .i64 0) := rowAt_cell HL.out.e 24
    have c7 : d2.cell? ⟨E, 25, none⟩ = some (.int .i64 0) := rowAt_cell HL.out.e 25
    have c8 : d2.cell? ⟨E, 26, none⟩ = some (.int .i64 3) := rowAt_cell HL.out.e 26
    go_wp2
    clear c0 c1 c2 c3 c4 c5 c6 c7 c8
    have HX : Hid (rowAt (d2.alloc (.cells #[.int .i64 0, .int .i64 7, .int .i64 0, .int .i64 0, .int .i64 0, .bool false, .int .i64 0, .int .i64 0, .int .i64 3] 44)) d2.heap.size = some #[.int .i64 0, .int .i64 7, .int .i64 0, .int .i64 0, .int .i64 0, .bool false, .int .i64 0, .int .i64 0, .int .i64 3]) := Lib.hid (rowAt_new _ _ _)
    have hxy : y < d2.heap.size := rowAt_lt HL.out.yy
    replace HL := Lib.hid (HL.out.past ((Below.refl d2.heap.size d2).alloc (Nat.le_refl _) (.cells #[.int .i64 0, .int .i64 7, .int .i64 0, .int .i64 0, .int .i64 0, .bool false, .int .i64 0, .int .i64 0, .int .i64 3] 44)) rfl rfl rfl rfl)
    generalize (d2.alloc (.cells #[.int .i64 0, .int .i64 7, .int .i64 0, .int .i64 0, .int .i64 0, .bool false, .int .i64 0, .int .i64 0, .int .i64 3] 44)) = V at HL HX ⊢
    generalize d2.heap.size = x at HX hxy ⊢
    refine wp_region_held_drew (S := (fun w' => w'.cell? ⟨x, 0, none⟩ = some (.int .i64 0) ∧ w'.cell? ⟨x, 1, none⟩ = some (.int .i64 7) ∧ w'.cell? ⟨x, 2, none⟩ = some (.int .i64 0) ∧ w'.cell? ⟨x, 3, none⟩ = some (.int .i64 0) ∧ w'.cell? ⟨x, 4, none⟩ = some (.int .i64 0) ∧ w'.cell? ⟨x, 5, none⟩ = some (.bool false) ∧ w'.cell? ⟨x, 6, none⟩ = some (.int .i64 0) ∧ w'.cell? ⟨x, 7, none⟩ = some (.int .i64 0) ∧ w'.cell? ⟨x, 8, none⟩ = some (.int .i64 3) ∧ w'.cell? ⟨S, 1, none⟩ = some (.slice (some ⟨y, 0, none⟩) 3 3))) (by kernel_rfl) ⟨rowAt_cell HX.out 0, rowAt_cell HX.out 1, rowAt_cell HX.out 2, rowAt_cell HX.out 3, rowAt_cell HX.out 4, rowAt_cell HX.out 5, rowAt_cell HX.out 6, rowAt_cell HX.out 7, rowAt_cell HX.out 8, rowAt_cell HL.out.st 1⟩ (fun hHeld => ?_)
    replace HX : Hid (rowAt V.drew x = some #[.int .i64 0, .int .i64 7, .int .i64 0, .int .i64 0, .int .i64 0, .bool false, .int .i64 0, .int .i64 0, .int .i64 3]) := HX
    replace HL := Lib.hid (HL.out.past (Below.refl V.heap.size V).drew rfl rfl rfl rfl)
    generalize V.drew = v at hHeld HX HL ⊢
    refine wpAnyH_take (i := 0) (oi := { dst := some 36, op := Op.move (Operand.tmp 6), type := 50, pos := "stamp.go:41", after := #[], guard := none }) (v := ?_) rfl (by kernel_rfl) (by kernel_rfl) (by kernel_rfl) (fun _ _ _ h => h) (Or.inl ⟨by rfl, ?_⟩) (by assumption) ?_
    rotate_left
    · (intro w9 hSw; (try dsimp only at hSw); go_split_ands; go_simp; with_reducible rfl)
    try simp only [Act.put, List.setIfInBounds_toArray, List.set_cons_zero, List.set_cons_succ]
    refine wpAnyH_take (i := 1) (oi := { dst := some 37, op := Op.nilCheck (Operand.tmp 36), type := 0, pos := "stamp.go:41", after := #[{ on := 0, ground := Ground.data }], guard := none }) (v := ?_) rfl (by kernel_rfl) (by kernel_rfl) (by kernel_rfl) (fun _ _ _ h => h) (Or.inl ⟨by rfl, ?_⟩) (by assumption) ?_
    rotate_left
    · (intro w9 hSw; (try dsimp only at hSw); go_split_ands; go_simp; with_reducible rfl)
    try simp only [Act.put, List.setIfInBounds_toArray, List.set_cons_zero, List.set_cons_succ]
    refine wpAnyH_take (i := 2) (oi := { dst := some 38, op := Op.fieldAddr 59 (Operand.tmp 37) 1, type := 0, pos := "stamp.go:41", after := #[{ on := 1, ground := Ground.data }], guard := none }) (v := ?_) rfl (by kernel_rfl) (by kernel_rfl) (by kernel_rfl) (fun _ _ _ h => h) (Or.inl ⟨by rfl, ?_⟩) (by assumption) ?_
    rotate_left
    · (intro w9 hSw; (try dsimp only at hSw); go_split_ands; go_simp; with_reducible rfl)
    try simp only [Act.put, List.setIfInBounds_toArray, List.set_cons_zero, List.set_cons_succ]
    refine wpAnyH_take (i := 3) (oi := { dst := some 39, op := Op.load 51 (Operand.tmp 38), type := 51, pos := "stamp.go:41", after := #[{ on := 2, ground := Ground.data }], guard := none }) (v := ?_) rfl (by kernel_rfl) (by kernel_rfl) (by kernel_rfl) (fun _ _ _ h => h) (Or.inl ⟨by rfl, ?_⟩) (by assumption) ?_
    rotate_left
    · (intro w9 hSw; (try dsimp only at hSw); go_split_ands; go_simp; with_reducible rfl)
    try simp only [Act.put, List.setIfInBounds_toArray, List.set_cons_zero, List.set_cons_succ]
    refine wpAnyH_take (i := 4) (oi := { dst := some 40, op := Op.move (Operand.tmp 7), type := 3, pos := "stamp.go:41", after := #[], guard := none }) (v := ?_) rfl (by kernel_rfl) (by kernel_rfl) (by kernel_rfl) (fun _ _ _ h => h) (Or.inl ⟨by rfl, ?_⟩) (by assumption) ?_
    rotate_left
    · (intro w9 hSw; (try dsimp only at hSw); go_split_ands; go_simp; with_reducible rfl)
    try simp only [Act.put, List.setIfInBounds_toArray, List.set_cons_zero, List.set_cons_succ]
    refine wpAnyH_take (i := 5) (oi := { dst := some 41, op := Op.load 44 (Operand.tmp 8), type := 44, pos := "stamp.go:41", after := #[], guard := none }) (v := ?_) rfl (by kernel_rfl) (by kernel_rfl) (by kernel_rfl) (fun _ _ _ h => h) (Or.inl ⟨by rfl, ?_⟩) (by assumption) ?_
    rotate_left
    · (intro w9 hSw; (try dsimp only at hSw); go_split_ands; go_simp; with_reducible rfl)
    try simp only [Act.put, List.setIfInBounds_toArray, List.set_cons_zero, List.set_cons_succ]
    refine wpAnyH_take (i := 6) (oi := { dst := some 42, op := Op.move (Operand.tmp 1), type := 45, pos := "stamp.go:41", after := #[], guard := none }) (v := ?_) rfl (by kernel_rfl) (by kernel_rfl) (by kernel_rfl) (fun _ _ _ h => h) (Or.inl ⟨by rfl, ?_⟩) (by assumption) ?_
    rotate_left
    · (intro w9 hSw; (try dsimp only at hSw); go_split_ands; go_simp; with_reducible rfl)
    try simp only [Act.put, List.setIfInBounds_toArray, List.set_cons_zero, List.set_cons_succ]
    refine wpAnyH_ready (rs := [7]) (by kernel_rfl) (by simp) ?_
    refine AllReadyH.cons (o := { dst := some 43, op := Op.call { callee := Callee.value (Operand.func 26), args := #[Operand.tmp 41, Operand.tmp 42], argTypes := #[44, 45] }, type := 4, pos := "stamp.go:41", after := #[{ on := 5, ground := Ground.data }, { on := 6, ground := Ground.data }], guard := none }) rfl (fun K' hK => ?_) AllReadyH.nil
    go_simp
    go_at_call 26
    refine (sync_2 f _).mono ?_
    rintro e e2 ⟨rfl, hb⟩
    replace HX := Lib.hid (rowAt_below HX.out hb rfl)
    replace HL := Lib.hid (HL.out.past hb rfl rfl rfl rfl)
    clear hb
    refine hK.out _ _ ⟨rowAt_cell HX.out 0, rowAt_cell HX.out 1, rowAt_cell HX.out 2, rowAt_cell HX.out 3, rowAt_cell HX.out 4, rowAt_cell HX.out 5, rowAt_cell HX.out 6, rowAt_cell HX.out 7, rowAt_cell HX.out 8, rowAt_cell HL.out.st 1⟩ (fun hHeld => ?_)
    clear hK K'
    try simp only [Act.put, List.setIfInBounds_toArray, List.set_cons_zero, List.set_cons_succ]
    refine wpAnyH_take (i := 8) (oi := { dst := some 44, op := Op.indexAddr 51 (Operand.tmp 39) (Operand.tmp 40), type := 0, pos := "stamp.go:41", after := #[{ on := 3, ground := Ground.data }, { on := 4, ground := Ground.data }, { on := 0, ground := Ground.phase }, { on := 1, ground := Ground.phase }, { on := 2, ground := Ground.phase }, { on := 3, ground := Ground.phase }, { on := 4, ground := Ground.phase }, { on := 5, ground := Ground.phase }, { on := 6, ground := Ground.phase }, { on := 7, ground := Ground.phase }], guard := none }) (v := ?_) rfl (by kernel_rfl) (by kernel_rfl) (by kernel_rfl) (fun _ _ _ h => h) (Or.inl ⟨by rfl, ?_⟩) (by assumption) ?_
    rotate_left
    · (intro w9 hSw; (try dsimp only at hSw); go_split_ands; go_simp; with_reducible rfl)
    try simp only [Act.put, List.setIfInBounds_toArray, List.set_cons_zero, List.set_cons_succ]
    refine wpAnyH_ready (rs := [9]) (by kernel_rfl) (by simp) ?_
    refine AllReadyH.cons (o := { dst := none, op := Op.store 4 (Operand.tmp 44) (Operand.tmp 43), type := 0, pos := "stamp.go:41", after := #[{ on := 8, ground := Ground.data }, { on := 7, ground := Ground.data }, { on := 7, ground := Ground.chain }, { on := 0, ground := Ground.phase }, { on := 1, ground := Ground.phase }, { on := 2, ground := Ground.phase }, { on := 3, ground := Ground.phase }, { on := 4, ground := Ground.phase }, { on := 5, ground := Ground.phase }, { on := 6, ground := Ground.phase }, { on := 7, ground := Ground.phase }], guard := none }) rfl (fun K' hK => ?_) AllReadyH.nil
    have z0 : e2.cell? ⟨y, 2, none⟩ = some (.bool false) := rowAt_cell HL.out.yy 2
    have z1 : e2.frozen? ⟨y, 2, none⟩ = false := rowAt_frz HL.out.yy 2
    go_simp
    clear z0 z1
    replace HX : Hid (rowAt (e2.setCell ⟨y, 2, none⟩ (.bool false)) x = some #[.int .i64 0, .int .i64 7, .int .i64 0, .int .i64 0, .int .i64 0, .bool false, .int .i64 0, .int .i64 0, .int .i64 3]) := Lib.hid (rowAt_set_far HX.out (by omega) _ _)
    replace HL : Hid (Lp w E y R S k g0 p0 g1 p1 #[.bool true, .bool false, .bool false] (SA0 E y R k m1 m2) (e2.setCell ⟨y, 2, none⟩ (.bool false))) := Lib.hid (HL.out.sety HN.out.2.2.2.2.2.2 HN.out.1 HN.out.2.1 HN.out.2.2.1 HN.out.2.2.2.1 HN.out.2.2.2.2.1 HN.out.2.2.2.2.2.1 rfl)
    refine hK.out _ _ ⟨rowAt_cell HX.out 0, rowAt_cell HX.out 1, rowAt_cell HX.out 2, rowAt_cell HX.out 3, rowAt_cell HX.out 4, rowAt_cell HX.out 5, rowAt_cell HX.out 6, rowAt_cell HX.out 7, rowAt_cell HX.out 8, rowAt_cell HL.out.st 1⟩ (fun hHeld => ?_)
    clear hK K'
    try simp only [Act.put, List.setIfInBounds_toArray, List.set_cons_zero, List.set_cons_succ]
    refine wpAnyH_done (by kernel_rfl) ?_ _
    generalize (e2.setCell ⟨y, 2, none⟩ (.bool false)) = f2 at hHeld HX HL ⊢
    clear hHeld HX hxy
    skip
    go_wp2
    rw [rounds_succ]
    go_wp2_with fail
    have HK0 : Hid (Kn E y R S g0 p0 g1 p1 (SA0 E y R k m1 m2) f2) := Lib.hid ⟨HL.out.e, HL.out.yy, HL.out.rr, HL.out.a0, HL.out.a1, HL.out.b0, HL.out.st, hp0, hp1, HL.out.k0, HL.out.k1, rfl, rfl, rfl⟩
    have hls : E ≠ S ∧ y ≠ S ∧ R ≠ S ∧ g0 ≠ S ∧ g1 ≠ S := ⟨row_ne HL.out.e HL.out.st (by simp [SA0, evs]), row_ne HL.out.yy HL.out.st (by simp [SA0]), row_ne HL.out.rr HL.out.st (by simp [SA0]), cell_ne HL.out.a0 (rowAt_cell HL.out.st 0) (by simp [SA0]), cell_ne HL.out.b0 (rowAt_cell HL.out.st 0) (by simp [SA0])⟩
    have hlk : E ≠ k ∧ y ≠ k ∧ R ≠ k ∧ g0 ≠ k ∧ g1 ≠ k := ⟨row_ne HL.out.e HL.out.ka (by decide), row_ne HL.out.yy HL.out.ka (by decide), row_ne HL.out.rr HL.out.ka (by simp), cell_ne HL.out.a1 (rowAt_cell HL.out.ka 1) (by simp), cell_ne HL.out.b0 (rowAt_cell HL.out.ka 0) (by simp)⟩
    have hKS : k ≠ S := row_ne HL.out.ka HL.out.st (by simp [SA0])
    refine (syncs_c _ HK0.out).mono ?_
    rintro e w2 ⟨g, c, rfl, hg0, hgs, hgl, hc, hb⟩
    have HK := Lib.hid (HK0.out.past hb rfl)
    have HA := Lib.hid (rowAt_below HL.out.ka hb rfl)
    have HB := Lib.hid (HL.out.b.trans (hb.mono HL.out.b.size))
    clear HL HK0 hb HN
    have ev0 : w2.cell? ⟨E, 0, none⟩ = some (.int .i64 0) := rowAt_cell HK.out.ev 0
    go_wp2
    refine wp_loop_rounds 2 ?_
    rw [rounds_succ]
    go_wp2_with fail
    refine (plain_0_0 _ HK.out).mono ?_
    rintro e w3 ⟨rfl, hb⟩
    replace HK := Lib.hid (HK.out.past hb rfl)
    replace HA := Lib.hid (rowAt_below HA.out hb rfl)
    replace HB := Lib.hid (below_step HB.out hb rfl rfl rfl rfl)
    clear hb ev0
    go_wp2_with fail
    refine (stamp_0 _ HK.out hls hlk hKS HA.out).mono ?_
    rintro e w4 ⟨rfl, hk1, ha1, hb1'⟩
    have HB1 := Lib.hid (HB.out.trans (hb1' w.heap.size hwS hkw HB.out.size))
    clear HK HA HB hb1'
    have HK := Lib.hid hk1
    have HA := Lib.hid ha1
    clear hk1 ha1
    have s2 : w4.cell? ⟨S, 2, none⟩ = some (.slice (some ⟨R, 0, none⟩) 4 4) := rowAt_cell HK.out.st 2
    go_wp2
    rw [rounds_succ]
    go_wp2
    clear s2
    refine wp_loop_rounds 5 ?_
    rw [rounds_succ]
    go_wp2_with fail
    refine (plain_1_0 _ HK.out hls hlk hKS HA.out).mono ?_
    rintro e w5 ⟨rfl, hk1, ha1, hb1'⟩
    have HB2 := Lib.hid (HB1.out.trans (hb1' w.heap.size hwS hkw HB1.out.size))
    clear HK HA HB1 hb1'
    have HK := Lib.hid hk1
    have HA := Lib.hid ha1
    clear hk1 ha1
    go_wp2
    rw [rounds_succ]
    go_wp2_with fail
    refine (plain_2_1 _ HK.out hls hlk hKS HA.out).mono ?_
    rintro e w6 ⟨rfl, hk1, ha1, hb1'⟩
    have HB3 := Lib.hid (HB2.out.trans (hb1' w.heap.size hwS hkw HB2.out.size))
    clear HK HA HB2 hb1'
    have HK := Lib.hid hk1
    have HA := Lib.hid ha1
    clear hk1 ha1
    go_wp2
    rw [rounds_succ]
    go_wp2_with fail
    refine (plain_3_2 _ HK.out).mono ?_
    rintro e w7 ⟨rfl, hb⟩
    replace HK := Lib.hid (HK.out.past hb rfl)
    replace HA := Lib.hid (rowAt_below HA.out hb rfl)
    have HB4 := Lib.hid (below_step HB3.out hb rfl rfl rfl rfl)
    clear hb HB3
    go_wp2
    rw [rounds_succ]
    go_wp2_with fail
    refine (plain_3_3 _ HK.out).mono ?_
    rintro e w8 ⟨rfl, hb⟩
    replace HK := Lib.hid (HK.out.past hb rfl)
    replace HA := Lib.hid (rowAt_below HA.out hb rfl)
    have HB5 := Lib.hid (below_step HB4.out hb rfl rfl rfl rfl)
    clear hb HB4
    have s41 : w8.cell? ⟨S, 41, none⟩ = some (.slice (some ⟨k, 0, none⟩) 3 3) := rowAt_cell HK.out.st 41
    go_wp2
    rw [rounds_succ]
    go_wp2
    go_ret2
    exact ⟨k, rfl, HA.out, HB5.out⟩
end Go.Proofs.Ytnmgafaebggeiaa
