import Derived.Deep.DrawnRows
import Derived.Deep.RegionLaw
import Derived.Test.YtpiafgmncfibmaaRm
import Derived.Test.YtpiafgmncfibmaaRows
import Derived.WalkKit
import Derived.ProofKit
import Derived.OpenShut
import Derived.Deep.QuietTactic
import Derived.BigQuiet
import Derived.Outline
import Derived.WalkSmall
import Derived.WalkLawsBesides
import Derived.WalkSpells
import Derived.BigGuardPart
import Derived.RegionTactic
import Derived.Deep.RegionHeld3
import Derived.Lib.Hide
import Derived.Deep.MidRow
import Derived.Below
import Derived.Deep.RegionWith
import Derived.Deep.OwnRows
import Derived.Deep.AppendLies
import Derived.Deep.RegionLaw
namespace Go.Proofs.Ytpiafgmncfibmaa
open Go.ChangeShapes Go.WideShapes Go.ChangeAt Go.RowKit
set_option linter.unusedVariables false

/-- While the four bytes ahead are looked at. -/
structure MG (S : Src) (w : World) (k : Nat) (V : World) : Prop where
  rd : Rd S k V
  res : BoxT V w.heap.size z3 26
  mg : ∀ (j : Nat) (u : Int), ([66, 90, 82, 49] : List Int)[j]? = some u → V.cell? ⟨w.heap.size + 1, j, none⟩ = some (.int .u8 u)
  lt : w.heap.size + 1 < V.heap.size
  gr : w.grownBy V (some S.R)
theorem MG.call {S : Src} {w V V' : World} {k k' : Nat} (h : MG S w k V) (hl : S.R < w.heap.size) (hr : Rd S k' V') (hg : V.grownBy V' (some S.R)) : MG S w k' V' :=
  ⟨hr, h.res.keep (rd_keep h.rd hg 26 (by decide)), fun j u hu => (hg.cell_far ⟨w.heap.size + 1, j, none⟩ h.lt (by simp; omega)).trans (h.mg j u hu), Nat.lt_of_lt_of_le h.lt hg.size, grown_trans h.gr hg (.inl rfl)⟩
theorem MG.alloc {S : Src} {w V : World} {k : Nat} (h : MG S w k V) (o : Obj) : MG S w k (V.alloc o) :=
  ⟨h.rd.alloc o, h.res.keep (.alloc _ _), fun j u hu => ((grown_alloc V o none).cell_far ⟨w.heap.size + 1, j, none⟩ h.lt (by simp)).trans (h.mg j u hu), by have := h.lt; simp; omega, grown_trans h.gr (grown_alloc V o (some S.R)) (.inl rfl)⟩
theorem mag_at : ∀ j, j < 4 → ([66, 90, 82, 49] : List Int)[j]? = some (magN j : Nat)
  | 0, _ => rfl
  | 1, _ => rfl
  | 2, _ => rfl
  | 3, _ => rfl
  | j + 4, h => by omega
theorem magN_lt (j : Nat) : magN j < 256 := by unfold magN; split; decide; split; decide; split <;> decide
/-- A program while it is read: its box, the result's box, its rows, the reader. -/
structure PM (S : Src) (w : World) (k QB : Nat) (P : Pg) (A : Ad) (V : World) : Prop where
  rd : Rd S k V
  res : BoxT V w.heap.size z3 26
  box : BoxT V QB (P.cells A) 26
  own : PgOwn (w.heap.size + 1) V P A
  qb : w.heap.size < QB
  gr : w.grownBy V (some S.R)
theorem PgOwn.keepE {lo : Nat} {w w' : World} {P : Pg} {A : Ad} (h : PgOwn lo w P A) (k : ∀ e, e = 2 ∨ e = 45 ∨ e = 47 ∨ e = 50 ∨ e = 3 ∨ e = 5 → KeepT e w w') : PgOwn lo w' P A :=
  ⟨own_keep h.p (k 2 (by decide)), own_keep h.k (k 45 (by decide)), fun i hi => own_keep (h.f i hi) (k 47 (by decide)), own_keep h.m (k 50 (by decide)), fun i hi => own_keep (h.a i hi) (k 3 (by decide)), fun i hi => own_keep (h.l i hi) (k 3 (by decide)), fun i hi => own_keep (h.d i hi) (k 5 (by decide))⟩
theorem PM.call {S : Src} {w V V' : World} {k k' QB : Nat} {P : Pg} {A : Ad} (h : PM S w k QB P A V) (hr : Rd S k' V') (hg : V.grownBy V' (some S.R)) : PM S w k' QB P A V' :=
  ⟨hr, h.res.keep (rd_keep h.rd hg 26 (by decide)), h.box.keep (rd_keep h.rd hg 26 (by decide)), h.own.keepE fun e he => rd_keep h.rd hg e (by omega), h.qb, grown_trans h.gr hg (.inl rfl)⟩
theorem PM.drew {S : Src} {w V : World} {k QB : Nat} {P : Pg} {A : Ad} (h : PM S w k QB P A V) : PM S w k QB P A V.drew :=
  ⟨h.rd.drew, h.res, h.box, h.own.keepE fun e _ => .drew _, h.qb, ⟨h.gr.os, h.gr.tape, h.gr.output, h.gr.size, h.gr.block⟩⟩
theorem PM.alloc {S : Src} {w V : World} {k QB : Nat} {P : Pg} {A : Ad} (h : PM S w k QB P A V) (o : Obj) : PM S w k QB P A (V.alloc o) :=
  ⟨h.rd.alloc o, h.res.keep (.alloc _ _), h.box.keep (.alloc _ _), h.own.keepE fun e _ => .alloc _ _, h.qb, grown_trans h.gr (grown_alloc V o (some S.R)) (.inl rfl)⟩
theorem PM.y {S : Src} {w V : World} {k QB : Nat} {P : Pg} {A : Ad} (h : PM S w k QB P A V) (j : Nat) (v : Value) (hv : (P.cells A)[j]? = some v) : V.cell? ⟨QB, j, none⟩ = some v ∧ V.frozen? ⟨QB, j, none⟩ = false := ⟨(h.box.cell j).trans hv, rowAt_frz h.box.row j⟩
theorem PM.lt {S : Src} {w V : World} {k QB : Nat} {P : Pg} {A : Ad} (h : PM S w k QB P A V) : w.heap.size + 1 < V.heap.size := by have := h.qb; have := h.box.lt; omega
def noAd : Ad := ⟨none, 0, none, 0, none, 0, fun _ => none, fun _ => 0, fun _ => none, fun _ => 0, fun _ => none, fun _ => 0, fun _ => none, fun _ => 0⟩
theorem nil_row (w : World) (B e s : Nat) (xs : List Value) (h : xs = []) : w.ownsRow B e s (.slice none 0 0) 0 xs := by subst h; exact ⟨rfl.trans (Nat.zero_mul s).symm, .inl ⟨rfl, rfl⟩⟩
theorem MG.pm {S : Src} {w V : World} {k : Nat} (h : MG S w k V) (d : Nat → Nat) : PM S w k V.heap.size { prs d with np := 0, nc := 0, nm := 0 } noAd (V.alloc (.cells z3 26)) :=
  ⟨h.rd.alloc _, h.res.keep (.alloc _ _), heap_alloc_new _ _, ⟨nil_row _ _ _ _ _ rfl, nil_row _ _ _ _ _ rfl, fun i hi => absurd hi (Nat.not_lt_zero i), nil_row _ _ _ _ _ rfl, fun i hi => absurd hi (Nat.not_lt_zero i), fun i hi => absurd hi (Nat.not_lt_zero i), fun i hi => absurd hi (Nat.not_lt_zero i)⟩, by have := h.lt; omega, grown_trans h.gr (grown_alloc V _ (some S.R)) (.inl rfl)⟩
/-- What stands behind an append, ahead of the store: all but the row that has grown. -/
structure P5 (S : Src) (w : World) (k QB e : Nat) (P : Pg) (A : Ad) (V V' : World) : Prop where
  rd : Rd S k V'
  res : BoxT V' w.heap.size z3 26
  box : BoxT V' QB (P.cells A) 26
  kk : ∀ t, e ≠ t → KeepT t V V'
  gr : w.grownBy V' (some S.R)
theorem PM.app {S : Src} {w V V' : World} {k QB e s n : Nat} {P : Pg} {A : Ad} {v : Value} {xs : List Value} {o : Obj} (h : PM S w k QB P A V) (hl : S.W.heap.size ≤ w.heap.size) (hc : V.ownsRow (w.heap.size + 1) e s v n xs) (hg : (V.alloc o).grownBy V' v.ownBlock) (he : e ≠ 95) (he2 : e ≠ 26) : P5 S w k QB e P A V V' :=
  (have hc' := own_keep hc (.alloc V o)
   have kk : ∀ t, e ≠ t → KeepT t V V' := fun t ht => (KeepT.alloc V o).trans (.grown hg (own_typed hc') ht)
   ⟨(h.rd.alloc o).grown hg (own_typed hc') he (fun g hg' => by have := own_base hc' g hg'; omega), h.res.keep (kk 26 he2), h.box.keep (kk 26 he2), kk, grown_own (grown_trans h.gr (grown_alloc V o (some S.R)) (.inl rfl)) hg (fun g hg' => by have := own_base hc' g hg'; omega)⟩)
theorem P5.y {S : Src} {w V V' : World} {k QB e : Nat} {P : Pg} {A : Ad} (h : P5 S w k QB e P A V V') (j : Nat) (v : Value) (hv : (P.cells A)[j]? = some v) : V'.cell? ⟨QB, j, none⟩ = some v ∧ V'.frozen? ⟨QB, j, none⟩ = false := ⟨(h.box.cell j).trans hv, rowAt_frz h.box.row j⟩
theorem P5.set {S : Src} {w V V' : World} {k QB e j : Nat} {P P' : Pg} {A A' : Ad} {v : Value} (h : P5 S w k QB e P A V V') (hp : PM S w k QB P A V) (hl : S.W.heap.size ≤ w.heap.size) (hX : (P.cells A).setIfInBounds j v = P'.cells A') (ho : (∀ t, 26 ≠ t → KeepT t V' (V'.setCell ⟨QB, j, none⟩ v)) → PgOwn (w.heap.size + 1) (V'.setCell ⟨QB, j, none⟩ v) P' A') : PM S w k QB P' A' (V'.setCell ⟨QB, j, none⟩ v) :=
  ⟨h.rd.set h.box (by decide) (by have := hp.qb; omega) v, h.res.far (by have := hp.qb; omega) j v, hX ▸ h.box.set j v, ho fun t ht => .set h.box ht, hp.qb, grown_own h.gr (grown_set V' ⟨QB, j, none⟩ v) (fun g hg => by obtain rfl := Option.some.inj hg; have := hp.qb; show w.heap.size ≤ QB; omega)⟩
theorem pool_step {S : Src} {w V V' : World} {k QB i nc nm g cap : Nat} {P : Pg} {A : Ad} (hp : PM S w k QB { P with np := i, nc := nc, nm := nm } A V) (h : P5 S w k QB 2 { P with np := i, nc := nc, nm := nm } A V V') (hl : S.W.heap.size ≤ w.heap.size) {y : Value} (hy : y = .int .i64 (P.po i))
    (hown : V'.ownsRow (w.heap.size + 1) 2 1 (.slice (some ⟨g, 0, none⟩) (i + 1) cap) (i + 1) (els1 i (fun i => .int .i64 (P.po i)) ++ [y])) :
    PM S w k QB { P with np := i + 1, nc := nc, nm := nm } { A with pa := some ⟨g, 0, none⟩, pc := cap } (V'.setCell ⟨QB, 0, none⟩ (.slice (some ⟨g, 0, none⟩) (i + 1) cap)) :=
  h.set hp hl rfl fun ks =>
    (have k2 : ∀ t, 2 ≠ t → 26 ≠ t → KeepT t V _ := fun t h1 h2 => (h.kk t h1).trans (ks t h2)
     ⟨by rw [els1_snoc i (fun i => .int .i64 (P.po i)) y hy.symm] at hown; exact own_keep hown (ks 2 (by decide)), own_keep hp.own.k (k2 45 (by decide) (by decide)), fun i hi => own_keep (hp.own.f i hi) (k2 47 (by decide) (by decide)), own_keep hp.own.m (k2 50 (by decide) (by decide)), fun i hi => own_keep (hp.own.a i hi) (k2 3 (by decide) (by decide)), fun i hi => own_keep (hp.own.l i hi) (k2 3 (by decide) (by decide)), fun i hi => own_keep (hp.own.d i hi) (k2 5 (by decide) (by decide))⟩)
theorem class_step {S : Src} {w V V' : World} {k QB np i nm g cap : Nat} {P : Pg} {A : Ad} (hp : PM S w k QB { P with np := np, nc := i, nm := nm } A V) (h : P5 S w k QB 45 { P with np := np, nc := i, nm := nm } A V V') (hl : S.W.heap.size ≤ w.heap.size) {a : Option Addr} {c n : Nat} (hn : n = P.nf i)
    (hf : V.ownsRow (w.heap.size + 1) 47 2 (.slice a n c) n (els2 n (fun j => .int .i64 (P.ft i j)) (fun j => .bool (P.fv i j))))
    (hown : V'.ownsRow (w.heap.size + 1) 45 1 (.slice (some ⟨g, 0, none⟩) (i + 1) cap) (i + 1) (els1 i (fun i => .slice (A.fa i) (P.nf i) (A.fc i)) ++ [.slice a n c])) :
    ∃ A', PM S w k QB { P with np := np, nc := i + 1, nm := nm } A' (V'.setCell ⟨QB, 1, none⟩ (.slice (some ⟨g, 0, none⟩) (i + 1) cap)) := by
  subst hn
  refine ⟨{ A with ca := some ⟨g, 0, none⟩, cc := cap, fa := fun k => if k = i then a else A.fa k, fc := fun k => if k = i then c else A.fc k }, h.set hp hl rfl fun ks => ?_⟩
  have k2 : ∀ t, 45 ≠ t → 26 ≠ t → KeepT t V _ := fun t h1 h2 => (h.kk t h1).trans (ks t h2)
  refine ⟨own_keep hp.own.p (k2 2 (by decide) (by decide)), ?_, ?_, own_keep hp.own.m (k2 50 (by decide) (by decide)), fun i hi => own_keep (hp.own.a i hi) (k2 3 (by decide) (by decide)), fun i hi => own_keep (hp.own.l i hi) (k2 3 (by decide) (by decide)), fun i hi => own_keep (hp.own.d i hi) (k2 5 (by decide) (by decide))⟩
  · show World.ownsRow _ _ 45 1 (.slice (some ⟨g, 0, none⟩) (i + 1) cap) (i + 1) (els1 (i + 1) fun k => .slice (if k = i then a else A.fa k) (P.nf k) (if k = i then c else A.fc k))
    rw [els1_succ, els1_congr (G := fun k => .slice (A.fa k) (P.nf k) (A.fc k)) (fun k hk => by simp [Nat.ne_of_lt hk])]
    simp only [if_pos]
    exact own_keep hown (ks 45 (by decide))
  · intro k hk
    show World.ownsRow _ _ 47 2 (.slice (if k = i then a else A.fa k) (P.nf k) (if k = i then c else A.fc k)) (P.nf k) _
    by_cases e : k = i
    · subst e
      simp only [if_pos]
      exact own_keep hf (k2 47 (by decide) (by decide))
    · simp only [if_neg e]
      exact own_keep (hp.own.f k (show k < i by have : k < i + 1 := hk; omega)) (k2 47 (by decide) (by decide))
theorem meth_step {S : Src} {w V V' : World} {k QB np nc i g cap : Nat} {P : Pg} {A : Ad} (hp : PM S w k QB { P with np := np, nc := nc, nm := i } A V) (h : P5 S w k QB 50 { P with np := np, nc := nc, nm := i } A V V') (hl : S.W.heap.size ≤ w.heap.size) {a0 a1 a2 : Option Addr} {c0 c1 c2 : Nat}
    (r0 : V.ownsRow (w.heap.size + 1) 3 1 (.slice a0 (P.pn i) c0) (P.pn i) (els1 (P.pn i) fun j => .int .i64 (P.pt i j))) (r1 : V.ownsRow (w.heap.size + 1) 3 1 (.slice a1 (P.ln i) c1) (P.ln i) (els1 (P.ln i) fun j => .int .i64 (P.lt i j))) (r2 : V.ownsRow (w.heap.size + 1) 5 1 (.slice a2 (P.cn i) c2) (P.cn i) (els1 (P.cn i) fun j => .int .u8 (P.cd i j : Nat)))
    (hown : V'.ownsRow (w.heap.size + 1) 50 5 (.slice (some ⟨g, 0, none⟩) (i + 1) cap) (i + 1) (els5 i (P.mcells A) ++ [.slice a0 (P.pn i) c0, .int .i64 (P.rt i), .slice a1 (P.ln i) c1, .int .i64 (P.sk i), .slice a2 (P.cn i) c2])) :
    ∃ A', PM S w k QB { P with np := np, nc := nc, nm := i + 1 } A' (V'.setCell ⟨QB, 2, none⟩ (.slice (some ⟨g, 0, none⟩) (i + 1) cap)) := by
  refine ⟨{ A with ma := some ⟨g, 0, none⟩, mc := cap, ppa := fun k => if k = i then a0 else A.ppa k, ppc := fun k => if k = i then c0 else A.ppc k, lla := fun k => if k = i then a1 else A.lla k, llc := fun k => if k = i then c1 else A.llc k, cda := fun k => if k = i then a2 else A.cda k, cdc := fun k => if k = i then c2 else A.cdc k }, h.set hp hl rfl fun ks => ?_⟩
  have k2 : ∀ t, 50 ≠ t → 26 ≠ t → KeepT t V _ := fun t h1 h2 => (h.kk t h1).trans (ks t h2)
  have lt : ∀ k, k < i + 1 → k ≠ i → k < i := fun k h1 h2 => by omega
  refine ⟨own_keep hp.own.p (k2 2 (by decide) (by decide)), own_keep hp.own.k (k2 45 (by decide) (by decide)), fun i hi => own_keep (hp.own.f i hi) (k2 47 (by decide) (by decide)), ?_, ?_, ?_, ?_⟩
  · show World.ownsRow _ _ 50 5 (.slice (some ⟨g, 0, none⟩) (i + 1) cap) (i + 1) (els5 (i + 1) (Pg.mcells { P with np := np, nc := nc, nm := i + 1 } _))
    rw [els5_succ, els5_congr (G := P.mcells A) (fun k hk => by unfold Pg.mcells; simp [Nat.ne_of_lt hk])]
    have e : Pg.mcells { P with np := np, nc := nc, nm := i + 1 } { A with ma := some ⟨g, 0, none⟩, mc := cap, ppa := fun k => if k = i then a0 else A.ppa k, ppc := fun k => if k = i then c0 else A.ppc k, lla := fun k => if k = i then a1 else A.lla k, llc := fun k => if k = i then c1 else A.llc k, cda := fun k => if k = i then a2 else A.cda k, cdc := fun k => if k = i then c2 else A.cdc k } i = [.slice a0 (P.pn i) c0, .int .i64 (P.rt i), .slice a1 (P.ln i) c1, .int .i64 (P.sk i), .slice a2 (P.cn i) c2] := by unfold Pg.mcells; simp
    rw [e]
    exact own_keep hown (ks 50 (by decide))
  · intro k hk
    show World.ownsRow _ _ 3 1 (.slice (if k = i then a0 else A.ppa k) (P.pn k) (if k = i then c0 else A.ppc k)) (P.pn k) _
    by_cases e : k = i
    · subst e; simp only [if_pos]; exact own_keep r0 (k2 3 (by decide) (by decide))
    · simp only [if_neg e]; exact own_keep (hp.own.a k (lt k hk e)) (k2 3 (by decide) (by decide))
  · intro k hk
    show World.ownsRow _ _ 3 1 (.slice (if k = i then a1 else A.lla k) (P.ln k) (if k = i then c1 else A.llc k)) (P.ln k) _
    by_cases e : k = i
    · subst e; simp only [if_pos]; exact own_keep r1 (k2 3 (by decide) (by decide))
    · simp only [if_neg e]; exact own_keep (hp.own.l k (lt k hk e)) (k2 3 (by decide) (by decide))
  · intro k hk
    show World.ownsRow _ _ 5 1 (.slice (if k = i then a2 else A.cda k) (P.cn k) (if k = i then c2 else A.cdc k)) (P.cn k) _
    by_cases e : k = i
    · subst e; simp only [if_pos]; exact own_keep r2 (k2 5 (by decide) (by decide))
    · simp only [if_neg e]; exact own_keep (hp.own.d k (lt k hk e)) (k2 5 (by decide) (by decide))
end Go.Proofs.Ytpiafgmncfibmaa
