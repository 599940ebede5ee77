import Derived.Laws.BitsLemmas
import Derived.IntWalk
import Derived.Laws.BitsAllLaws
import Derived.Deep.DrawnRows
import Derived.Test.YtpiafgmncfibmaaVh
import Derived.Test.YtpiafgmncfibmaaRows
import Derived.WalkKit
import Derived.ProofKit
import Derived.OpenShut
import Derived.Deep.QuietTactic
import Derived.BigQuiet
import Derived.Outline
import Derived.WalkSmall
import Derived.WalkLawsBesides
import Derived.WalkSpells
import Derived.BigGuardPart
import Derived.RegionTactic
import Derived.Deep.RegionHeld3
import Derived.Lib.Hide
import Derived.Deep.MidRow
import Derived.Below
import Derived.Deep.RegionWith
import Derived.Deep.OwnRows
import Derived.Deep.AppendLies
import Derived.Deep.RegionLaw
import Derived.Deep.CutBlock
import Derived.Deep.DeepCutAuto
namespace Go.Proofs.Ytpiafgmncfibmaa.Vf
open Go.ChangeShapes Go.WideShapes Go.ChangeAt Go.RowKit
set_option linter.unusedVariables false

/-! ### Rows whose cells are a function of the place -/
def RowF (w : World) (b e n : Nat) (F : Nat → Value) : Prop := ∃ C, w.heap[b]? = some (.cells C e (0, 0)) ∧ C.size = n ∧ ∀ i, i < n → C[i]? = some (F i)
def RowS (w : World) (b e n s : Nat) (F : Nat → Nat → Value) : Prop := ∃ C, w.heap[b]? = some (.cells C e (0, 0)) ∧ C.size = n * s ∧ ∀ k j, k < n → j < s → C[k * s + j]? = some (F k j)
theorem RowF.cell {w : World} {b e n : Nat} {F : Nat → Value} (h : RowF w b e n F) {i : Nat} (hi : i < n) : w.cell? ⟨b, i, none⟩ = some (F i) := by
  obtain ⟨C, h1, h2, h3⟩ := h
  exact (rowAt_cell (rowAt_of h1) i).trans (h3 i hi)
theorem RowF.frz {w : World} {b e n : Nat} {F : Nat → Value} (h : RowF w b e n F) (i : Nat) : w.frozen? ⟨b, i, none⟩ = false := by
  obtain ⟨C, h1, h2, h3⟩ := h
  exact rowAt_frz (rowAt_of h1) i
theorem RowF.lt {w : World} {b e n : Nat} {F : Nat → Value} (h : RowF w b e n F) : b < w.heap.size := by
  obtain ⟨C, h1, _⟩ := h
  exact (Array.getElem?_eq_some_iff.1 h1).1
theorem RowF.same {w w' : World} {b e n : Nat} {F : Nat → Value} (h : RowF w b e n F) (hs : w'.heap[b]? = w.heap[b]?) : RowF w' b e n F := by
  obtain ⟨C, h1, h2⟩ := h
  exact ⟨C, hs.trans h1, h2⟩
theorem RowF.below {w w' : World} {b e n : Nat} {F : Nat → Value} (h : RowF w b e n F) (k : Below w.heap.size w w') : RowF w' b e n F := h.same (k.block b h.lt)
theorem RowF.far {w : World} {b e n : Nat} {F : Nat → Value} (h : RowF w b e n F) {g : Nat} (hne : b ≠ g) (k : Nat) (v : Value) : RowF (w.setCell ⟨g, k, none⟩ v) b e n F := h.same (Below.heap_setCell _ _ _ _ hne)
theorem RowF.set {w : World} {b e n : Nat} {F : Nat → Value} (h : RowF w b e n F) (k : Nat) (v : Value) : RowF (w.setCell ⟨b, k, none⟩ v) b e n (set1 F k v) := by
  obtain ⟨C, h1, h2, h3⟩ := h
  refine ⟨C.setIfInBounds k v, Bx.set h1 k v, by simpa using h2, fun i hi => ?_⟩
  rw [Array.getElem?_setIfInBounds]
  unfold set1
  by_cases hik : i = k
  · subst hik
    rw [if_pos rfl, if_pos (by omega), if_pos rfl]
  · rw [if_neg (fun e => hik e.symm), if_neg hik]
    exact h3 i hi
theorem RowF.ext {w : World} {b e n : Nat} {F G : Nat → Value} (h : RowF w b e n F) (hg : ∀ i, i < n → F i = G i) : RowF w b e n G := by
  obtain ⟨C, h1, h2, h3⟩ := h
  exact ⟨C, h1, h2, fun i hi => by rw [← hg i hi]; exact h3 i hi⟩
theorem RowS.cell {w : World} {b e n s : Nat} {F : Nat → Nat → Value} (h : RowS w b e n s F) {k j : Nat} (hk : k < n) (hj : j < s) : w.cell? ⟨b, k * s + j, none⟩ = some (F k j) := by
  obtain ⟨C, h1, h2, h3⟩ := h
  exact (rowAt_cell (rowAt_of h1) _).trans (h3 k j hk hj)
theorem RowS.frz {w : World} {b e n s : Nat} {F : Nat → Nat → Value} (h : RowS w b e n s F) (i : Nat) : w.frozen? ⟨b, i, none⟩ = false := by
  obtain ⟨C, h1, h2, h3⟩ := h
  exact rowAt_frz (rowAt_of h1) i
theorem RowS.lt {w : World} {b e n s : Nat} {F : Nat → Nat → Value} (h : RowS w b e n s F) : b < w.heap.size := by
  obtain ⟨C, h1, _⟩ := h
  exact (Array.getElem?_eq_some_iff.1 h1).1
theorem RowS.same {w w' : World} {b e n s : Nat} {F : Nat → Nat → Value} (h : RowS w b e n s F) (hs : w'.heap[b]? = w.heap[b]?) : RowS w' b e n s F := by
  obtain ⟨C, h1, h2⟩ := h
  exact ⟨C, hs.trans h1, h2⟩
theorem RowS.below {w w' : World} {b e n s : Nat} {F : Nat → Nat → Value} (h : RowS w b e n s F) (k : Below w.heap.size w w') : RowS w' b e n s F := h.same (k.block b h.lt)
theorem RowS.far {w : World} {b e n s : Nat} {F : Nat → Nat → Value} (h : RowS w b e n s F) {g : Nat} (hne : b ≠ g) (k : Nat) (v : Value) : RowS (w.setCell ⟨g, k, none⟩ v) b e n s F := h.same (Below.heap_setCell _ _ _ _ hne)
def set2 (F : Nat → Nat → Value) (k j : Nat) (v : Value) : Nat → Nat → Value := fun k' j' => if k' = k ∧ j' = j then v else F k' j'
theorem RowS.set {w : World} {b e n s : Nat} {F : Nat → Nat → Value} (h : RowS w b e n s F) {k j : Nat} (hk : k < n) (hj : j < s) (v : Value) : RowS (w.setCell ⟨b, k * s + j, none⟩ v) b e n s (set2 F k j v) := by
  obtain ⟨C, h1, h2, h3⟩ := h
  refine ⟨C.setIfInBounds (k * s + j) v, Bx.set h1 _ v, by simpa using h2, fun k' j' hk' hj' => ?_⟩
  have hlt : k * s + j < C.size := by
    have := Nat.mul_le_mul_right s (show k + 1 ≤ n from hk)
    rw [Nat.add_mul] at this
    omega
  rw [Array.getElem?_setIfInBounds]
  unfold set2
  by_cases hkk : k' = k ∧ j' = j
  · obtain ⟨rfl, rfl⟩ := hkk
    rw [if_pos rfl, if_pos hlt, if_pos ⟨rfl, rfl⟩]
  · have hne : k * s + j ≠ k' * s + j' := fun e => by
      apply hkk
      have hs : 0 < s := by omega
      have e1 : (k * s + j) / s = k := by rw [Nat.mul_comm, Nat.mul_add_div hs, Nat.div_eq_of_lt hj]; rfl
      have e2 : (k' * s + j') / s = k' := by rw [Nat.mul_comm, Nat.mul_add_div hs, Nat.div_eq_of_lt hj']; rfl
      have e3 : k' = k := by rw [← e1, ← e2, e]
      subst e3
      exact ⟨rfl, by omega⟩
    rw [if_neg hne, if_neg hkk]
    exact h3 k' j' hk' hj'
theorem RowS.ext {w : World} {b e n s : Nat} {F G : Nat → Nat → Value} (h : RowS w b e n s F) (hg : ∀ k j, k < n → j < s → F k j = G k j) : RowS w b e n s G := by
  obtain ⟨C, h1, h2, h3⟩ := h
  exact ⟨C, h1, h2, fun k j hk hj => by rw [← hg k j hk hj]; exact h3 k j hk hj⟩
/-! ### A flow -/
structure Fk where
  P : Pg
  A : Ad
  m : Nat
  w0 : World
  f : Nat
  ro : Nat
  rs : Nat
  rh : Nat
  rg : Nat
  hi : Nat
def Fk.n (K : Fk) : Nat := K.P.cn K.m
def Fk.D (K : Fk) : Nat → Nat := K.P.cd K.m
structure FkOk (K : Fk) : Prop where
  at' : PgAt K.w0 K.P K.A
  fit : Fits K.P K.A
  cap : Caps K.P K.A
  m : K.m < K.P.nm
  n0 : 0 < K.n
  n1 : K.n ≤ 4096
  s0 : 0 ≤ K.P.sk K.m
  s1 : K.P.sk K.m ≤ 40
  f0 : K.w0.heap.size ≤ K.f
  f1 : K.f < K.hi
  o0 : K.w0.heap.size ≤ K.ro
  o1 : K.ro < K.hi
  q0 : K.w0.heap.size ≤ K.rs
  q1 : K.rs < K.hi
  h0 : K.w0.heap.size ≤ K.rh
  h1 : K.rh < K.hi
  g0 : K.w0.heap.size ≤ K.rg
  g1 : K.rg < K.hi
  ne : K.rh ≠ K.rg
def ret4F (a b c d : Int) (j : Nat) : Value := if j = 0 then .int .i64 a else if j = 1 then .int .i64 b else if j = 2 then .int .i64 c else .int .i64 d
/-- What is known of a place's bytecode. -/
def opF (O : Nat → Bool) (D : Nat → Nat) (k j : Nat) : Value := if O k = true then ret4F (D k : Nat) (opA D k) (opB D k) (szK (kindO (D k)) : Nat) j else .int .i64 0
structure Fx where
  a : Nat → Option Addr
  c : Nat → Nat
def shF (F : Fl) (X : Fx) (k j : Nat) : Value := if j = 0 then .slice (X.a k) (F.S k).l.length (X.c k) else .int .i64 (F.S k).h
def Fk.head (K : Fk) (lo : Nat) : Array Value := #[.slice K.A.pa K.P.np K.A.pc, .slice K.A.ca K.P.nc K.A.cc, .slice K.A.ma K.P.nm K.A.mc, .int .i64 K.m, .slice (K.A.cda K.m) K.n (K.A.cdc K.m), .slice (some ⟨K.ro, 0, none⟩) K.n K.n, .slice (some ⟨K.rs, 0, none⟩) K.n K.n, .slice (some ⟨K.rh, 0, none⟩) K.n K.n, .slice (some ⟨K.rg, 0, none⟩) K.n K.n, .int .i64 lo]
structure FlC (K : Fk) (w : World) (O : Nat → Bool) (F : Fl) (X : Fx) (lo : Nat) : Prop where
  f : Bx w K.f (K.head lo) 120
  o : RowS w K.ro 74 K.n 4 (opF O K.D)
  s : RowS w K.rs 71 K.n 2 (shF F X)
  h : RowF w K.rh 4 K.n (fun i => .bool (F.H i))
  g : RowF w K.rg 4 K.n (fun i => .bool (F.G i))
  ti : ∀ k, k < K.n → Ints w (X.a k) (F.S k).l
  tc : ∀ k, k < K.n → (F.S k).l.length ≤ X.c k
  tf : ∀ k, k < K.n → ∀ p, X.a k = some p → K.hi ≤ p.block
  tl : ∀ k, k < K.n → (F.S k).l.length ≤ 40
  t0 : ∀ k, k < K.n → 0 ≤ (F.S k).h
  t1 : ∀ k, k < K.n → (F.S k).h ≤ 10
  b : Below K.w0.heap.size K.w0 w
  hi : K.hi ≤ w.heap.size
  lo : lo ≤ K.n
theorem FlC.below {K : Fk} {w w' : World} {O : Nat → Bool} {F : Fl} {X : Fx} {lo : Nat} (h : FlC K w O F X lo) (k : Below w.heap.size w w') : FlC K w' O F X lo :=
  ⟨h.f.below k, h.o.below k, h.s.below k, h.h.below k, h.g.below k, fun i hi => (h.ti i hi).kept (Kept.of k), h.tc, h.tf, h.tl, h.t0, h.t1, h.b.trans (k.mono h.b.size), Nat.le_trans h.hi k.size, h.lo⟩
theorem FlC.nfo {K : Fk} {w : World} {O : Nat → Bool} {F : Fl} {X : Fx} {lo : Nat} (h : FlC K w O F X lo) : K.f ≠ K.ro ∧ K.f ≠ K.rs ∧ K.f ≠ K.rh ∧ K.f ≠ K.rg ∧ K.ro ≠ K.rs ∧ K.ro ≠ K.rh ∧ K.ro ≠ K.rg ∧ K.rs ≠ K.rh ∧ K.rs ≠ K.rg := by
  have hf := h.f
  obtain ⟨Co, ho, _⟩ := h.o
  obtain ⟨Cs, hs, _⟩ := h.s
  obtain ⟨Ch, hh, _⟩ := h.h
  obtain ⟨Cg, hg, _⟩ := h.g
  exact ⟨hf.ne (show Bx w K.ro Co 74 from ho) (by decide), hf.ne (show Bx w K.rs Cs 71 from hs) (by decide), hf.ne (show Bx w K.rh Ch 4 from hh) (by decide), hf.ne (show Bx w K.rg Cg 4 from hg) (by decide),
    Bx.ne (show Bx w K.ro Co 74 from ho) (show Bx w K.rs Cs 71 from hs) (by decide), Bx.ne (show Bx w K.ro Co 74 from ho) (show Bx w K.rh Ch 4 from hh) (by decide), Bx.ne (show Bx w K.ro Co 74 from ho) (show Bx w K.rg Cg 4 from hg) (by decide),
    Bx.ne (show Bx w K.rs Cs 71 from hs) (show Bx w K.rh Ch 4 from hh) (by decide), Bx.ne (show Bx w K.rs Cs 71 from hs) (show Bx w K.rg Cg 4 from hg) (by decide)⟩
theorem chk_lims {P : Pg} (h : P.chk = 0) : P.nm ≤ 100 ∧ 0 < P.nm ∧ ∀ i, i < P.nm → P.pn i + P.ln i ≤ 40 ∧ P.sk i ≤ 40 ∧ 0 ≤ P.sk i ∧ P.cn i ≤ 4096 ∧ 0 < P.cn i := by
  unfold Pg.chk at h
  split at h
  · cases h
  split at h
  · cases h
  split at h
  · cases h
  split at h
  · cases h
  split at h
  · cases h
  rename_i h4 h5
  split at h
  · rename_i h6
    exact absurd h h6
  rename_i h6
  refine ⟨by omega, by omega, fun i hi => ?_⟩
  have hE : P.err i = 0 := Classical.byContradiction fun hne => by
    obtain ⟨k, hk, hlt⟩ : ∃ k, k ≤ i ∧ (P.err k ≠ 0 ∧ ∀ j, j < k → P.err j = 0) := by
      induction i using Nat.strongRecOn with
      | ind i ih =>
        by_cases hx : ∀ j, j < i → P.err j = 0
        · exact ⟨i, Nat.le_refl _, hne, hx⟩
        · obtain ⟨j, hj⟩ := Classical.not_forall.1 hx
          obtain ⟨hj1, hj2⟩ := Classical.not_imp.1 hj
          obtain ⟨k, hk, hkk⟩ := ih j hj1 (by omega) hj2
          exact ⟨k, by omega, hkk⟩
    exact h6 (by rw [firstE_at k (by omega) hlt.2 hlt.1]; exact hlt.1)
  unfold Pg.err chkM at hE
  repeat' split at hE
  all_goals simp_all
  all_goals omega
end Go.Proofs.Ytpiafgmncfibmaa.Vf
