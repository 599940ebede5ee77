import Derived.Test.YtpiafgmncfibmaaTz
import Derived.Test.YtpiafgmncfibmaaRows
import Derived.WalkKit
import Derived.ProofKit
import Derived.OpenShut
import Derived.Deep.QuietTactic
import Derived.BigQuiet
import Derived.Outline
import Derived.WalkSmall
import Derived.WalkLawsBesides
import Derived.WalkSpells
import Derived.BigGuardPart
import Derived.RegionTactic
import Derived.Deep.RegionHeld3
import Derived.Lib.Hide
import Derived.Deep.MidRow
import Derived.Below
import Derived.Deep.RegionWith
import Derived.Deep.OwnRows
import Derived.Deep.AppendLies
import Derived.Deep.RegionLaw
namespace Go.Proofs.Ytpiafgmncfibmaa
open Go.ChangeShapes Go.WideShapes Go.ChangeAt Go.RowKit
set_option linter.unusedVariables false

/-- Integers of a kind that may be changed, in blocks from lo to hi. -/
def Ty1 (lo hi : Nat) (w : World) (a : Option Addr) (n : Nat) (kd : IntKind) : Prop := n = 0 ∨ ∃ g, a = some ⟨g, 0, none⟩ ∧ lo ≤ g ∧ g < hi ∧ (∀ i, i < n → ∃ x, w.cell? ⟨g, i, none⟩ = some (.int kd x)) ∧ ∀ i, w.frozen? ⟨g, i, none⟩ = false
def Ty2 (lo hi : Nat) (w : World) (a : Option Addr) (n : Nat) : Prop := n = 0 ∨ ∃ g, a = some ⟨g, 0, none⟩ ∧ lo ≤ g ∧ g < hi ∧ (∀ i, i < n → ∃ x, w.cell? ⟨g, i * 2, none⟩ = some (.int .i64 x)) ∧ ∀ i, w.frozen? ⟨g, i, none⟩ = false
/-- A twin whose numbers may be changed. -/
structure TShape (lo hi : Nat) (w : World) (P : Pg) (A : Ad) : Prop where
  p : Ty1 lo hi w A.pa P.np .i64
  k : P.nc = 0 ∨ ∃ g, A.ca = some ⟨g, 0, none⟩ ∧ ∀ i, i < P.nc → w.cell? ⟨g, i, none⟩ = some (.slice (A.fa i) (P.nf i) (A.fc i))
  f : ∀ i, i < P.nc → Ty2 lo hi w (A.fa i) (P.nf i)
  m : P.nm = 0 ∨ ∃ g, A.ma = some ⟨g, 0, none⟩ ∧ ∀ i, i < P.nm → ∃ r s : Int, w.cell? ⟨g, i * 5, none⟩ = some (.slice (A.ppa i) (P.pn i) (A.ppc i)) ∧ w.cell? ⟨g, i * 5 + 1, none⟩ = some (.int .i64 r) ∧ w.cell? ⟨g, i * 5 + 2, none⟩ = some (.slice (A.lla i) (P.ln i) (A.llc i)) ∧ w.cell? ⟨g, i * 5 + 3, none⟩ = some (.int .i64 s) ∧ w.cell? ⟨g, i * 5 + 4, none⟩ = some (.slice (A.cda i) (P.cn i) (A.cdc i))
  a : ∀ i, i < P.nm → Ty1 lo hi w (A.ppa i) (P.pn i) .i64
  l : ∀ i, i < P.nm → Ty1 lo hi w (A.lla i) (P.ln i) .i64
  d : ∀ i, i < P.nm → Ty1 lo hi w (A.cda i) (P.cn i) .u8
/-- How cells go from w to w': a number stays one of its kind, all else stays. -/
def Num (w w' : World) : Prop := (∀ p k x, w.cell? p = some (.int k x) → ∃ y, w'.cell? p = some (.int k y)) ∧ (∀ p a n c, w.cell? p = some (.slice a n c) → w'.cell? p = some (.slice a n c)) ∧ ∀ g i, g < w.heap.size → w'.frozen? ⟨g, i, none⟩ = w.frozen? ⟨g, i, none⟩
theorem Num.ty1 {lo hi : Nat} {w w' : World} {a : Option Addr} {n : Nat} {kd : IntKind} (h : Ty1 lo hi w a n kd) (q : Num w w') : Ty1 lo hi w' a n kd := by
  rcases h with h | ⟨g, ha, hl, hh, hc, hf⟩
  · exact .inl h
  · by_cases hn : n = 0
    · exact .inl hn
    · obtain ⟨x, hx⟩ := hc 0 (by omega)
      have hlt := World.block_lt_of_cell? w ⟨g, 0, none⟩ hx
      exact .inr ⟨g, ha, hl, hh, fun i hi => (have ⟨x, hx⟩ := hc i hi; q.1 _ _ x hx), fun i => (q.2.2 g i hlt).trans (hf i)⟩
theorem Num.ty2 {lo hi : Nat} {w w' : World} {a : Option Addr} {n : Nat} (h : Ty2 lo hi w a n) (q : Num w w') : Ty2 lo hi w' a n := by
  rcases h with h | ⟨g, ha, hl, hh, hc, hf⟩
  · exact .inl h
  · by_cases hn : n = 0
    · exact .inl hn
    · obtain ⟨x, hx⟩ := hc 0 (by omega)
      have hlt := World.block_lt_of_cell? w ⟨g, _, none⟩ hx
      exact .inr ⟨g, ha, hl, hh, fun i hi => (have ⟨x, hx⟩ := hc i hi; q.1 _ _ x hx), fun i => (q.2.2 g i hlt).trans (hf i)⟩
theorem TShape.num {lo hi : Nat} {w w' : World} {P : Pg} {A : Ad} (h : TShape lo hi w P A) (q : Num w w') : TShape lo hi w' P A := by
  refine ⟨q.ty1 h.p, ?_, fun i hi => q.ty2 (h.f i hi), ?_, fun i hi => q.ty1 (h.a i hi), fun i hi => q.ty1 (h.l i hi), fun i hi => q.ty1 (h.d i hi)⟩
  · rcases h.k with h0 | ⟨g, ha, hc⟩
    · exact .inl h0
    · exact .inr ⟨g, ha, fun i hi => q.2.1 _ _ _ _ (hc i hi)⟩
  · rcases h.m with h0 | ⟨g, ha, hc⟩
    · exact .inl h0
    · refine .inr ⟨g, ha, fun i hi => ?_⟩
      obtain ⟨r, s, x0, x1, x2, x3, x4⟩ := hc i hi
      obtain ⟨r', y1⟩ := q.1 _ _ _ x1
      obtain ⟨s', y3⟩ := q.1 _ _ _ x3
      exact ⟨r', s', q.2.1 _ _ _ _ x0, y1, q.2.1 _ _ _ _ x2, y3, q.2.1 _ _ _ _ x4⟩
theorem Num.set {w : World} {b j : Nat} {k : IntKind} {x : Int} (h : w.cell? ⟨b, j, none⟩ = some (.int k x)) (y : Int) : Num w (w.setCell ⟨b, j, none⟩ (.int k y)) := by
  obtain ⟨p, hp⟩ : ∃ p : Addr, p = ⟨b, j, none⟩ := ⟨_, rfl⟩
  refine ⟨fun q k' z hz => ?_, fun q a n c hz => ?_, fun g i _ => World.frozen?_setCells b [.int k y] j w ⟨g, i, none⟩⟩
  all_goals rw [← hp] at h ⊢
  · by_cases e : p = q
    · subst e
      rw [h] at hz
      injection hz with hz
      injection hz with h1 h2
      subst h1
      exact ⟨y, World.cell?_setCell_same _ _ _ h⟩
    · exact ⟨z, (World.cell?_setCell_other _ _ _ _ e).trans hz⟩
  · have e : p ≠ q := by
      rintro rfl
      rw [h] at hz
      cases hz
    exact (World.cell?_setCell_other _ _ _ _ e).trans hz
theorem Num.alloc (w : World) (o : Obj) : Num w (w.alloc o) :=
  ⟨fun p k x h => ⟨x, (World.cell?_alloc_lt _ _ _ (World.block_lt_of_cell? w p h)).trans h⟩, fun p a n c h => (World.cell?_alloc_lt _ _ _ (World.block_lt_of_cell? w p h)).trans h, fun g i hg => World.frozen?_alloc_past _ _ _ hg⟩
theorem own_ty1 {lo hi : Nat} {w : World} {e n : Nat} {a : Option Addr} {c : Nat} {F : Nat → Value} {kd : IntKind} (h : w.ownsRow lo e 1 (.slice a n c) n (els1 n F)) (hF : ∀ i, ∃ x, F i = .int kd x) (hs : w.heap.size ≤ hi) : Ty1 lo hi w a n kd := by
  rcases h.2 with ⟨hv, h0⟩ | ⟨g, cap, cur, hv, hb, hg, _⟩
  · exact .inl h0
  · rcases own_cell h with h0 | ⟨g', ha, _, hl, hc⟩
    · exact .inl h0
    · injection hv with h1 _ _
      rw [ha] at h1
      injection h1 with h1
      injection h1 with h1
      subst h1
      exact .inr ⟨g', ha, hb, by omega, fun i hi => (have ⟨x, hx⟩ := hF i; ⟨x, by rw [← hx]; exact hc i _ (els1_at _ hi)⟩), fun i => frozen_of_row w g' i cur e hg⟩
theorem own_ty2 {lo hi : Nat} {w : World} {e n : Nat} {a : Option Addr} {c : Nat} {F G : Nat → Value} (h : w.ownsRow lo e 2 (.slice a n c) n (els2 n F G)) (hF : ∀ i, ∃ x, F i = .int .i64 x) (hs : w.heap.size ≤ hi) : Ty2 lo hi w a n := by
  rcases h.2 with ⟨hv, h0⟩ | ⟨g, cap, cur, hv, hb, hg, _⟩
  · exact .inl h0
  · rcases own_cell h with h0 | ⟨g', ha, _, hl, hc⟩
    · exact .inl h0
    · injection hv with h1 _ _
      rw [ha] at h1
      injection h1 with h1
      injection h1 with h1
      subst h1
      exact .inr ⟨g', ha, hb, by omega, fun i hi => (have ⟨x, hx⟩ := hF i; ⟨x, by rw [← hx]; exact hc _ _ (els2_get F G hi).1⟩), fun i => frozen_of_row w g' i cur e hg⟩
theorem PgOwn.shape {lo hi : Nat} {w : World} {P : Pg} {A : Ad} (h : PgOwn lo w P A) (hs : w.heap.size ≤ hi) : TShape lo hi w P A := by
  refine ⟨own_ty1 h.p (fun i => ⟨_, rfl⟩) hs, ?_, fun i hi => own_ty2 (h.f i hi) (fun i => ⟨_, rfl⟩) hs, ?_, fun i hi => own_ty1 (h.a i hi) (fun i => ⟨_, rfl⟩) hs, fun i hi => own_ty1 (h.l i hi) (fun i => ⟨_, rfl⟩) hs, fun i hi => own_ty1 (h.d i hi) (fun i => ⟨_, rfl⟩) hs⟩
  · rcases own_cell h.k with h0 | ⟨g, ha, _, _, hc⟩
    · exact .inl h0
    · exact .inr ⟨g, ha, fun i hi => hc i _ (els1_at _ hi)⟩
  · rcases own_cell h.m with h0 | ⟨g, ha, _, _, hc⟩
    · exact .inl h0
    · have hg := fun i (hi : i < P.nm) k hk => els5_get (P.mcells A) (fun i => rfl) hi k hk
      exact .inr ⟨g, ha, fun i hi => ⟨P.rt i, P.sk i, hc _ _ (hg i hi 0 (by decide)), hc _ _ (hg i hi 1 (by decide)), hc _ _ (hg i hi 2 (by decide)), hc _ _ (hg i hi 3 (by decide)), hc _ _ (hg i hi 4 (by decide))⟩⟩
/-- While the twin's numbers are changed. -/
structure MutR (B lo hi : Nat) (W0 : World) (b1 b2 b3 : Nat) (P : Pg) (A T U : Ad) (w : World) : Prop where
  t : TShape lo hi w P T
  p : BoxT w b1 (P.cells A) 26
  q : BoxT w b2 (P.cells T) 26
  r : BoxT w b3 (P.cells U) 26
  u : PgOwn hi w P U
  b : Below B W0 w
structure MutB (B lo hi : Nat) (b1 b2 b3 : Nat) : Prop where
  p : b1 < lo
  q : hi ≤ b2
  r : hi ≤ b3
  b : B ≤ lo
theorem MutR.set {B lo hi : Nat} {W0 : World} {b1 b2 b3 : Nat} {P : Pg} {A T U : Ad} {w : World} (h : MutR B lo hi W0 b1 b2 b3 P A T U w) (hb : MutB B lo hi b1 b2 b3) {g j : Nat} {k : IntKind} {x : Int} (hc : w.cell? ⟨g, j, none⟩ = some (.int k x)) (hl : lo ≤ g) (hh : g < hi) (y : Int) :
    MutR B lo hi W0 b1 b2 b3 P A T U (w.setCell ⟨g, j, none⟩ (.int k y)) := by
  have kk : ∀ {e s n : Nat} {v : Value} {xs : List Value}, w.ownsRow hi e s v n xs → (w.setCell ⟨g, j, none⟩ (.int k y)).ownsRow hi e s v n xs := fun ho => own_blk ho fun g' hg' _ => heap_setCell_other _ _ _ _ (fun e => by have := own_base ho g' hg'; simp at e; omega)
  refine ⟨h.t.num (.set hc y), h.p.far (by have := hb.p; omega) _ _, h.q.far (by have := hb.q; omega) _ _, h.r.far (by have := hb.r; omega) _ _, ?_, h.b.setCell (p := ⟨g, j, none⟩) (by have := hb.b; simp; omega) _⟩
  exact ⟨kk h.u.p, kk h.u.k, fun i hi => kk (h.u.f i hi), kk h.u.m, fun i hi => kk (h.u.a i hi), fun i hi => kk (h.u.l i hi), fun i hi => kk (h.u.d i hi)⟩
theorem PgOwn.keep {lo : Nat} {w w' : World} {P : Pg} {A : Ad} (h : PgOwn lo w P A) (k : ∀ e, KeepT e w w') : PgOwn lo w' P A :=
  ⟨own_keep h.p (k _), own_keep h.k (k _), fun i hi => own_keep (h.f i hi) (k _), own_keep h.m (k _), fun i hi => own_keep (h.a i hi) (k _), fun i hi => own_keep (h.l i hi) (k _), fun i hi => own_keep (h.d i hi) (k _)⟩
theorem MutR.alloc {B lo hi : Nat} {W0 : World} {b1 b2 b3 : Nat} {P : Pg} {A T U : Ad} {w : World} (h : MutR B lo hi W0 b1 b2 b3 P A T U w) (hb : B ≤ W0.heap.size) (o : Obj) :
    MutR B lo hi W0 b1 b2 b3 P A T U (w.alloc o) :=
  ⟨h.t.num (.alloc _ _), h.p.keep (.alloc _ _), h.q.keep (.alloc _ _), h.r.keep (.alloc _ _), h.u.keep fun e => .alloc _ _, h.b.alloc (Nat.le_trans hb h.b.size) _⟩
end Go.Proofs.Ytpiafgmncfibmaa
