import Derived.Test.YtjcbhomfggjmhaaIa
namespace Go.Proofs.Ytjcbhomfggjmhaa.Mm
open Go.ChangeShapes Go.WideShapes Go.ChangeAt Go.RowKit Go.Maps
set_option linter.unusedVariables false
/-! ### Memories whose first region is the law's -/
def Cfg (M : Me) : Prop := 0 < M.n ∧ M.A 0 = 4096 ∧ M.S 0 = 256 ∧ M.X 0 = true ∧ M.W 0 = true ∧ ∀ k, 0 < k → k < M.n → M.X k = false
def wd (M : Me) (x : Nat) : Nat × Nat := if 4096 ≤ x ∧ x < 4352 ∧ x % 4 = 0 then (rd (fun i => M.y 0 (x - 4096 + i)) 4, 0) else (0, 8)
theorem wd_lt {M : Me} (h : ∀ k o, M.y k o < 256) (x : Nat) : (wd M x).1 < 4294967296 := by
  unfold wd
  split
  · exact rd_lt _ (fun j => h 0 _) 4
  · show 0 < 4294967296; omega
theorem wd_code (M : Me) (x : Nat) : (wd M x).2 = 0 ∨ (wd M x).2 = 8 := by
  unfold wd
  split
  · exact .inl rfl
  · exact .inr rfl
section
variable {w : World} {FP : Nat → Prop} {p : Nat} {M : Me} {v : Value} {B C : Nat → Nat}
theorem Cfg.hs {M : Me} (hc : Cfg M) {x : Nat} (h : 4096 ≤ x ∧ x < 4352 ∧ x % 4 = 0) : Hs M x 4 0 (x - 4096) := ⟨hc.1, by rw [hc.2.1]; omega, by rw [hc.2.2.1]; omega, by rw [hc.2.2.1]; omega⟩
theorem word_cfg (h : MeC 64 67 w FP p M v B C) (hc : Cfg M) {x : Nat} (hx : x < 18446744073709551616) :
    Calls Try.prog 68 #[.pointer (some ⟨p, 0, none⟩), .int .u64 x] w fun e w' => e = .returned (.tuple #[.int .u32 ((wd M x).1 : Nat), .int .i64 ((wd M x).2 : Nat)]) ∧ ∃ q, w' = w.drewN q := by
  unfold wd
  by_cases h1 : 4096 ≤ x ∧ x < 4352 ∧ x % 4 = 0
  · rw [if_pos h1]
    exact word_y h (hc.hs h1) h1.2.2 hc.2.2.2.1
  · rw [if_neg h1]
    by_cases h2 : ∃ k o, Hs M x 0 k o
    · obtain ⟨k, o, hs⟩ := h2
      refine word_m h hs ?_
      by_cases hk : k = 0
      · subst hk
        obtain ⟨_, e1, e2, _⟩ := hs
        rw [hc.2.1] at e1
        rw [hc.2.2.1] at e2
        exact .inl (by omega)
      · exact .inr (hc.2.2.2.2.2 k (by omega) hs.1)
    · exact word_n h hx fun k o hs => h2 ⟨k, o, hs⟩
end
theorem ld_y (k : Nat) : ∀ (l : List Nat) (M : Me) (o k' i : Nat), (M.ld k o l).y k' i = if k' = k ∧ o ≤ i ∧ i < o + l.length then l.getD (i - o) 0 else M.y k' i
  | [], M, o, k', i => by rw [if_neg (by simp)]; rfl
  | c :: l, M, o, k', i => by
    show ((M.put1 k o c).ld k (o + 1) l).y k' i = _
    rw [ld_y k l (M.put1 k o c) (o + 1) k' i]
    by_cases h1 : k' = k ∧ o + 1 ≤ i ∧ i < o + 1 + l.length
    · rw [if_pos h1, if_pos (by simp; omega)]
      obtain ⟨j, hj⟩ : ∃ j, i - o = j + 1 := ⟨i - o - 1, by omega⟩
      rw [hj, show i - (o + 1) = j by omega]
      rfl
    · rw [if_neg h1]
      show (if k' = k ∧ i = o then c else M.y k' i) = _
      by_cases h2 : k' = k ∧ i = o
      · rw [if_pos h2, if_pos (by simp; omega), show i - o = 0 by omega]
        rfl
      · rw [if_neg h2, if_neg (by simp; simp at h1; omega)]
theorem byte_rd (f : Nat → Nat) (hf : ∀ j, f j < 256) : rd f 4 % 256 = f 0 ∧ rd f 4 / 256 % 256 = f 1 ∧ rd f 4 / 65536 % 256 = f 2 ∧ rd f 4 / 16777216 % 256 = f 3 := by
  have h0 := hf 0
  have h1 := hf 1
  have h2 := hf 2
  have h3 := hf 3
  have e : rd f 4 = f 0 + 256 * (f 1 + 256 * (f 2 + 256 * (f 3 + 256 * 0))) := by
    rw [rd_shift, rd_shift, rd_shift, rd_shift]
    rfl
  rw [e]
  omega
/-! ### What is saved -/
structure Sv (Z : Nat → Prop) (w w' : World) : Prop where
  os : w'.os = w.os
  tape : w'.tape = w.tape
  output : w'.output = w.output
  size : w.heap.size ≤ w'.heap.size
  block : ∀ k, Z k → k < w.heap.size → w'.heap[k]? = w.heap[k]?
theorem Sv.refl (Z : Nat → Prop) (w : World) : Sv Z w w := ⟨rfl, rfl, rfl, Nat.le_refl _, fun _ _ _ => rfl⟩
theorem Sv.trans {Z : Nat → Prop} {a b c : World} (h : Sv Z a b) (k : Sv Z b c) : Sv Z a c :=
  ⟨k.os.trans h.os, k.tape.trans h.tape, k.output.trans h.output, Nat.le_trans h.size k.size, fun i hz hi => (k.block i hz (Nat.lt_of_lt_of_le hi h.size)).trans (h.block i hz hi)⟩
theorem Sv.of {Z : Nat → Prop} {w w' : World} (h : Below w.heap.size w w') : Sv Z w w' := ⟨h.os, h.tape, h.output, h.size, fun k _ hk => h.block k hk⟩
theorem Sv.less {Z Z' : Nat → Prop} {w w' : World} (h : Sv Z w w') (hz : ∀ k, Z' k → Z k) : Sv Z' w w' := ⟨h.os, h.tape, h.output, h.size, fun k hk => h.block k (hz k hk)⟩
theorem Sv.grown {Z : Nat → Prop} {a w w' : World} {row : Option Nat} (h : Sv Z a w) (hg : w.grownBy w' row) (hr : ∀ k, row = some k → ¬ Z k) : Sv Z a w' :=
  h.trans ⟨hg.os, hg.tape, hg.output, hg.size, fun k hz hk => hg.block k hk (fun e => hr k e.symm hz)⟩
theorem Sv.setCell {Z : Nat → Prop} {a w : World} (h : Sv Z a w) {p : Addr} (hp : ¬ Z p.block) (u : Value) : Sv Z a (w.setCell p u) :=
  h.trans ⟨rfl, rfl, rfl, by simp [World.setCell], fun k hz _ => Below.heap_setCell _ _ _ _ (fun e => hp (e ▸ hz))⟩
theorem Sv.drewN {Z : Nat → Prop} {a w : World} (h : Sv Z a w) (n : Nat) : Sv Z a (w.drewN n) := h.trans (Sv.of (below_drewN (Below.refl _ _) n))
theorem Sv.bd {Z : Nat → Prop} {w : World} (n : Nat) : Sv Z w (w.drewN n) := Sv.of (below_drewN (Below.refl _ _) n)
theorem Sv.alloc {Z : Nat → Prop} {a w : World} (h : Sv Z a w) (o : Obj) : Sv Z a (w.alloc o) := h.trans (Sv.of ((Below.refl _ _).alloc (Nat.le_refl _) o))
theorem Sv.kp {Z F : Nat → Prop} {w w' : World} (h : Kp F w w') (hf : ∀ k, F k → ¬ Z k) : Sv Z w w' := ⟨h.os, h.tape, h.output, h.size, fun k hz hk => h.block k hk fun e => hf k e hz⟩
theorem Sv.below {B : Nat} {w w' : World} (h : Sv (fun k => k < B) w w') (hB : B ≤ w.heap.size) : Below B w w' := ⟨h.os, h.tape, h.output, h.size, fun k hk => h.block k hk (Nat.lt_of_lt_of_le hk hB)⟩
theorem Sv.below' {B : Nat} {w w' : World} (h : Sv (fun k => k < B) w w') (hz : ∀ k, (fun k => k < B) k → k < w.heap.size) : Below B w w' := h.below (Nat.le_of_not_lt fun hlt => by have h1 : w.heap.size < w.heap.size := hz w.heap.size hlt; omega)
theorem zl_up {Z : Nat → Prop} {w w' : World} (h : ∀ k, Z k → k < w.heap.size) (hs : w.heap.size ≤ w'.heap.size) : ∀ k, Z k → k < w'.heap.size := fun k hk => Nat.lt_of_lt_of_le (h k hk) hs
/-! ### A side -/
structure Sd where
  n : Nat
  T : Me
  C : Int → Nat → Option Nat
  H : Int → Nat → Option Nat
  N : Nat
  Wt : Nat → List (Int × Nat)
structure Pl where
  m : Nat
  t : Nat
  bc : Nat
  bh : Nat
  wb : Nat
  v : Value
  B : Nat → Nat
  C : Nat → Nat
  FT : Nat → Prop
def invL (l : List (Int × Nat)) : List Value := l.flatMap fun x => [.int .i64 x.1, .int .u64 (x.2 : Nat)]
theorem invL_len (l : List (Int × Nat)) : (invL l).length = l.length * 2 := by
  unfold invL
  induction l with
  | nil => rfl
  | cons x l ih => simp [List.flatMap_cons, ih]; omega
def rowSd (L : Pl) (n : Nat) : Array Value := #[.pointer (some ⟨L.m, 0, none⟩), .pointer (some ⟨L.t, 0, none⟩), .map (some L.bc), .map (some L.bh), .slice (some ⟨L.wb, 0, none⟩) n n]
/-- Where a side lies: all of its own blocks are at lo or behind; the memory that it looks at lies before. -/
structure SdC (w : World) (lo : Nat → Prop) (p : Nat) (L : Pl) (V : Nat → Value) (S : Sd) : Prop where
  row : w.heap[p]? = some (.cells (rowSd L S.n) 80 (0, 0))
  told : MeC 64 67 w L.FT L.t S.T L.v L.B L.C
  cfg : Cfg S.T
  mc : MpAt w L.bc S.N S.C
  mh : MpAt w L.bh S.N S.H
  wr : w.ownsRow 0 103 1 (.slice (some ⟨L.wb, 0, none⟩) S.n S.n) S.n ((List.range S.n).map V)
  rows : ∀ c, c < S.n → w.ownsRow 0 105 2 (V c) (S.Wt c).length (invL (S.Wt c))
  apart : ∀ c d, c < S.n → d < S.n → c ≠ d → (V c).ownBlock = (V d).ownBlock → (V c).ownBlock = none
  ne : L.bc ≠ L.bh
  lp : ¬ lo p
  lc : ¬ lo L.bc
  lh : ¬ lo L.bh
  lb : ¬ lo L.wb
  lt : ∀ k, L.FT k → ¬ lo k
  rz : ∀ c, c < S.n → ∀ q, (V c).ownBlock = some q → ¬ lo q
  zl : ∀ k, lo k → k < w.heap.size
  ap : ¬ L.FT p ∧ ¬ L.FT L.bc ∧ ¬ L.FT L.bh ∧ ¬ L.FT L.wb
  av : ∀ c, c < S.n → ∀ q, (V c).ownBlock = some q → ¬ L.FT q
  n4 : 0 < S.n ∧ S.n ≤ 4
section
variable {w w' : World} {lo : Nat → Prop} {p : Nat} {L : Pl} {V : Nat → Value} {S : Sd}
theorem SdC.pl (h : SdC w lo p L V S) : p < w.heap.size := (Array.getElem?_eq_some_iff.1 h.row).1
theorem SdC.lw (h : SdC w lo p L V S) : ¬ lo L.wb ∧ L.wb < w.heap.size := ⟨h.lb, (h.wr.lt L.wb rfl).2⟩
theorem SdC.kept (h : SdC w lo p L V S) (hs : w.heap.size ≤ w'.heap.size) (hk : ∀ k, ¬ lo k → k < w.heap.size → w'.heap[k]? = w.heap[k]?) : SdC w' lo p L V S :=
  ⟨(hk p h.lp h.pl).trans h.row, h.told.kept hs (fun k hf => hk k (h.lt k hf) (h.told.fl k hf)), h.cfg, h.mc.kept (hk _ h.lc h.mc.lt), h.mh.kept (hk _ h.lh h.mh.lt),
    own_kept h.wr (fun q hq => by injection hq with hq; subst hq; exact hk L.wb h.lb h.lw.2), fun c hc => own_kept (h.rows c hc) (fun q hq => hk q (h.rz c hc q hq) ((h.rows c hc).lt q hq).2), h.apart, h.ne, h.lp, h.lc, h.lh, h.lb, h.lt, h.rz, zl_up h.zl hs, h.ap, h.av, h.n4⟩
theorem SdC.past (h : SdC w lo p L V S) (hb : Below w.heap.size w w') : SdC w' lo p L V S := h.kept hb.size fun k _ hk => hb.block k hk
theorem SdC.kp {F : Nat → Prop} (h : SdC w lo p L V S) (hk : Kp F w w') (hF : ∀ k, F k → lo k) : SdC w' lo p L V S := h.kept hk.size fun k h1 h2 => hk.block k h2 fun hf => h1 (hF k hf)
theorem MpAt.heap {w : World} {b N : Nat} {F : Int → Nat → Option Nat} (h : MpAt w b N F) : ∃ es c, w.heap[b]? = some (.map es c) := by
  obtain ⟨D, ⟨es, clock, h1, _⟩, _⟩ := h
  exact ⟨es, clock, h1⟩
theorem map_ne_cells {w : World} {b q : Nat} {es : Array MapEntry} {c : Nat} {cs : Array Value} {e : TypeId} {fz : Nat × Nat} (h : w.heap[b]? = some (.map es c)) (h2 : w.heap[q]? = some (.cells cs e fz)) : q ≠ b := fun e0 => by
  subst e0
  rw [h] at h2
  cases h2
theorem own_ne_map {w : World} {b base n size : Nat} {e : TypeId} {v : Value} {xs : List Value} {es : Array MapEntry} {c : Nat} (h : w.heap[b]? = some (.map es c)) (ho : w.ownsRow base e size v n xs) {q : Nat} (hq : v.ownBlock = some q) : q ≠ b := by
  obtain ⟨cur, hc⟩ := own_heap ho hq
  exact map_ne_cells h hc
/-- The cache's map has turned. -/
theorem SdC.setC (h : SdC w lo p L V S) {F : Int → Nat → Option Nat} {N' : Nat} (hN : S.N ≤ N') (hm : MpAt w' L.bc N' F) (hg : w.grownBy w' (some L.bc)) : SdC w' lo p L V { S with C := F, N := N' } := by
  obtain ⟨es, c, hh⟩ := h.mc.heap
  have hk : ∀ k, k < w.heap.size → k ≠ L.bc → w'.heap[k]? = w.heap[k]? := fun k hk hne => hg.block k hk fun e => hne (by injection e)
  exact ⟨(hk p h.pl (map_ne_cells hh h.row)).trans h.row, h.told.kept hg.size (fun k hf => hk k (h.told.fl k hf) (fun e => h.ap.2.1 (e ▸ hf))), h.cfg, hm, (h.mh.kept (hk _ h.mh.lt h.ne.symm)).more hN,
    own_kept h.wr (fun q hq => hk q (h.wr.lt q hq).2 (own_ne_map hh h.wr hq)), fun c hc => own_kept (h.rows c hc) (fun q hq => hk q ((h.rows c hc).lt q hq).2 (own_ne_map hh (h.rows c hc) hq)), h.apart, h.ne, h.lp, h.lc, h.lh, h.lb, h.lt, h.rz, zl_up h.zl hg.size, h.ap, h.av, h.n4⟩
/-- The map of what is held ahead has turned. -/
theorem SdC.setH (h : SdC w lo p L V S) {F : Int → Nat → Option Nat} {N' : Nat} (hN : S.N ≤ N') (hm : MpAt w' L.bh N' F) (hg : w.grownBy w' (some L.bh)) : SdC w' lo p L V { S with H := F, N := N' } := by
  obtain ⟨es, c, hh⟩ := h.mh.heap
  have hk : ∀ k, k < w.heap.size → k ≠ L.bh → w'.heap[k]? = w.heap[k]? := fun k hk hne => hg.block k hk fun e => hne (by injection e)
  exact ⟨(hk p h.pl (map_ne_cells hh h.row)).trans h.row, h.told.kept hg.size (fun k hf => hk k (h.told.fl k hf) (fun e => h.ap.2.2.1 (e ▸ hf))), h.cfg, (h.mc.kept (hk _ h.mc.lt h.ne)).more hN, hm,
    own_kept h.wr (fun q hq => hk q (h.wr.lt q hq).2 (own_ne_map hh h.wr hq)), fun c hc => own_kept (h.rows c hc) (fun q hq => hk q ((h.rows c hc).lt q hq).2 (own_ne_map hh (h.rows c hc) hq)), h.apart, h.ne, h.lp, h.lc, h.lh, h.lb, h.lt, h.rz, zl_up h.zl hg.size, h.ap, h.av, h.n4⟩
/-- The memory that is told has turned. -/
theorem SdC.setT (h : SdC w lo p L V S) {T : Me} (hc : Cfg T) (hm : MeC 64 67 w' L.FT L.t T L.v L.B L.C) (hk : Kp L.FT w w') : SdC w' lo p L V { S with T := T } :=
  ⟨(hk.block p h.pl h.ap.1).trans h.row, hm, hc, h.mc.kept (hk.block _ h.mc.lt h.ap.2.1), h.mh.kept (hk.block _ h.mh.lt h.ap.2.2.1), own_kept h.wr (fun q hq => hk.block q (h.wr.lt q hq).2 (by injection hq with hq; subst hq; exact h.ap.2.2.2)),
    fun c hc => own_kept (h.rows c hc) (fun q hq => hk.block q ((h.rows c hc).lt q hq).2 (h.av c hc q hq)), h.apart, h.ne, h.lp, h.lc, h.lh, h.lb, h.lt, h.rz, zl_up h.zl hk.size, h.ap, h.av, h.n4⟩
/-- The side's own cells. -/
theorem SdC.cells (h : SdC w lo p L V S) : w.cell? ⟨p, 0, none⟩ = some (.pointer (some ⟨L.m, 0, none⟩)) ∧ w.cell? ⟨p, 1, none⟩ = some (.pointer (some ⟨L.t, 0, none⟩)) ∧ w.cell? ⟨p, 2, none⟩ = some (.map (some L.bc)) ∧ w.cell? ⟨p, 3, none⟩ = some (.map (some L.bh)) ∧ w.cell? ⟨p, 4, none⟩ = some (.slice (some ⟨L.wb, 0, none⟩) S.n S.n) :=
  ⟨by rw [cell_of_row w p 0 _ 80 _ h.row]; rfl, by rw [cell_of_row w p 1 _ 80 _ h.row]; rfl, by rw [cell_of_row w p 2 _ 80 _ h.row]; rfl, by rw [cell_of_row w p 3 _ 80 _ h.row]; rfl, by rw [cell_of_row w p 4 _ 80 _ h.row]; rfl⟩
theorem SdC.wcell (h : SdC w lo p L V S) {c : Nat} (hc : c < S.n) : w.cell? ⟨L.wb, c, none⟩ = some (V c) ∧ w.frozen? ⟨L.wb, c, none⟩ = false := by
  obtain ⟨h1, h2⟩ := own_cells h.wr
  refine ⟨h1 c _ ?_, h2 c⟩
  rw [List.getElem?_map, List.getElem?_range hc]
  rfl
/-- The side's own blocks. -/
def OwnS (p : Nat) (L : Pl) (V : Nat → Value) (n : Nat) (k : Nat) : Prop := k = p ∨ k = L.bc ∨ k = L.bh ∨ k = L.wb ∨ L.FT k ∨ ∃ c, c < n ∧ (V c).ownBlock = some k
theorem SdC.own (h : SdC w lo p L V S) {k : Nat} (hk : OwnS p L V S.n k) : ¬ lo k ∧ k < w.heap.size := by
  rcases hk with rfl | rfl | rfl | rfl | hk | ⟨c, hc, hk⟩
  · exact ⟨h.lp, h.pl⟩
  · exact ⟨h.lc, h.mc.lt⟩
  · exact ⟨h.lh, h.mh.lt⟩
  · exact h.lw
  · exact ⟨h.lt k hk, h.told.fl k hk⟩
  · exact ⟨h.rz c hc k hk, ((h.rows c hc).lt k hk).2⟩
theorem SdC.rez (h : SdC w lo p L V S) {Z : Nat → Prop} (hz : ∀ k, OwnS p L V S.n k → ¬ Z k) (hl : ∀ k, Z k → k < w.heap.size) : SdC w Z p L V S :=
  ⟨h.row, h.told, h.cfg, h.mc, h.mh, h.wr, h.rows, h.apart, h.ne, hz _ (.inl rfl), hz _ (.inr (.inl rfl)), hz _ (.inr (.inr (.inl rfl))), hz _ (.inr (.inr (.inr (.inl rfl)))), fun k hk => hz k (.inr (.inr (.inr (.inr (.inl hk))))), fun c hc q hq => hz q (.inr (.inr (.inr (.inr (.inr ⟨c, hc, hq⟩))))), hl, h.ap, h.av, h.n4⟩
theorem SdC.sv (h : SdC w lo p L V S) {Z : Nat → Prop} (hs : Sv Z w w') (hz : ∀ k, OwnS p L V S.n k → Z k) : SdC w' lo p L V S :=
  (((h.rez (Z := fun k => k < w.heap.size ∧ ¬ OwnS p L V S.n k) (fun k hk h2 => h2.2 hk) (fun k hk => hk.1)).kept hs.size (fun k h1 h2 => hs.block k (hz k (Classical.byContradiction fun hn => h1 ⟨h2, hn⟩)) h2))).rez (fun k hk => (h.own hk).1) (zl_up h.zl hs.size)
end
end Go.Proofs.Ytjcbhomfggjmhaa.Mm
