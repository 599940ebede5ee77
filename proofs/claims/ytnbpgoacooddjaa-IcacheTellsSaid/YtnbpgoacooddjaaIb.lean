import Derived.Test.YtnbpgoacooddjaaIa
namespace Go.Proofs.Ytnbpgoacooddjaa.Mm
open Go.ChangeShapes Go.WideShapes Go.ChangeAt Go.RowKit Go.Maps
set_option linter.unusedVariables false
/-! ### Memories whose first region is the law's -/
def Cfg (M : Me) : Prop := 0 < M.n ∧ M.A 0 = 4096 ∧ M.S 0 = 256 ∧ M.X 0 = true ∧ M.W 0 = true ∧ ∀ k, 0 < k → k < M.n → M.X k = false
def wd (M : Me) (x : Nat) : Nat × Nat := if 4096 ≤ x ∧ x < 4352 ∧ x % 4 = 0 then (rd (fun i => M.y 0 (x - 4096 + i)) 4, 0) else (0, 8)
theorem wd_lt {M : Me} (h : ∀ k o, M.y k o < 256) (x : Nat) : (wd M x).1 < 4294967296 := by
  unfold wd
  split
  · exact rd_lt _ (fun j => h 0 _) 4
  · show 0 < 4294967296; omega
theorem wd_code (M : Me) (x : Nat) : (wd M x).2 = 0 ∨ (wd M x).2 = 8 := by
  unfold wd
  split
  · exact .inl rfl
  · exact .inr rfl
section
variable {w : World} {FP : Nat → Prop} {p : Nat} {M : Me} {v : Value} {B C : Nat → Nat}
theorem Cfg.hs {M : Me} (hc : Cfg M) {x : Nat} (h : 4096 ≤ x ∧ x < 4352 ∧ x % 4 = 0) : Hs M x 4 0 (x - 4096) := ⟨hc.1, by rw [hc.2.1]; omega, by rw [hc.2.2.1]; omega, by rw [hc.2.2.1]; omega⟩
theorem word_cfg (h : MeC 184 187 w FP p M v B C) (hc : Cfg M) {x : Nat} (hx : x < 18446744073709551616) :
    Calls Try.prog 128 #[.pointer (some ⟨p, 0, none⟩), .int .u64 x] w fun e w' => e = .returned (.tuple #[.int .u32 ((wd M x).1 : Nat), .int .i64 ((wd M x).2 : Nat)]) ∧ ∃ q, w' = w.drewN q := by
  unfold wd
  by_cases h1 : 4096 ≤ x ∧ x < 4352 ∧ x % 4 = 0
  · rw [if_pos h1]
    exact word_y h (hc.hs h1) h1.2.2 hc.2.2.2.1
  · rw [if_neg h1]
    by_cases h2 : ∃ k o, Hs M x 0 k o
    · obtain ⟨k, o, hs⟩ := h2
      refine word_m h hs ?_
      by_cases hk : k = 0
      · subst hk
        obtain ⟨_, e1, e2, _⟩ := hs
        rw [hc.2.1] at e1
        rw [hc.2.2.1] at e2
        exact .inl (by omega)
      · exact .inr (hc.2.2.2.2.2 k (by omega) hs.1)
    · exact word_n h hx fun k o hs => h2 ⟨k, o, hs⟩
end
theorem ld_y (k : Nat) : ∀ (l : List Nat) (M : Me) (o k' i : Nat), (M.ld k o l).y k' i = if k' = k ∧ o ≤ i ∧ i < o + l.length then l.getD (i - o) 0 else M.y k' i
  | [], M, o, k', i => by rw [if_neg (by simp)]; rfl
  | c :: l, M, o, k', i => by
    show ((M.put1 k o c).ld k (o + 1) l).y k' i = _
    rw [ld_y k l (M.put1 k o c) (o + 1) k' i]
    by_cases h1 : k' = k ∧ o + 1 ≤ i ∧ i < o + 1 + l.length
    · rw [if_pos h1, if_pos (by simp; omega)]
      obtain ⟨j, hj⟩ : ∃ j, i - o = j + 1 := ⟨i - o - 1, by omega⟩
      rw [hj, show i - (o + 1) = j by omega]
      rfl
    · rw [if_neg h1]
      show (if k' = k ∧ i = o then c else M.y k' i) = _
      by_cases h2 : k' = k ∧ i = o
      · rw [if_pos h2, if_pos (by simp; omega), show i - o = 0 by omega]
        rfl
      · rw [if_neg h2, if_neg (by simp; simp at h1; omega)]
theorem byte_rd (f : Nat → Nat) (hf : ∀ j, f j < 256) : rd f 4 % 256 = f 0 ∧ rd f 4 / 256 % 256 = f 1 ∧ rd f 4 / 65536 % 256 = f 2 ∧ rd f 4 / 16777216 % 256 = f 3 := by
  have h0 := hf 0
  have h1 := hf 1
  have h2 := hf 2
  have h3 := hf 3
  have e : rd f 4 = f 0 + 256 * (f 1 + 256 * (f 2 + 256 * (f 3 + 256 * 0))) := by
    rw [rd_shift, rd_shift, rd_shift, rd_shift]
    rfl
  rw [e]
  omega
/-! ### A side -/
structure Sd where
  n : Nat
  T : Me
  C : Int → Nat → Option Nat
  H : Int → Nat → Option Nat
  N : Nat
  Wt : Nat → List (Int × Nat)
structure Pl where
  m : Nat
  t : Nat
  bc : Nat
  bh : Nat
  wb : Nat
  v : Value
  B : Nat → Nat
  C : Nat → Nat
  FT : Nat → Prop
def invL (l : List (Int × Nat)) : List Value := l.flatMap fun x => [.int .i64 x.1, .int .u64 (x.2 : Nat)]
theorem invL_len (l : List (Int × Nat)) : (invL l).length = l.length * 2 := by
  unfold invL
  induction l with
  | nil => rfl
  | cons x l ih => simp [List.flatMap_cons, ih]; omega
def rowSd (L : Pl) (n : Nat) : Array Value := #[.pointer (some ⟨L.m, 0, none⟩), .pointer (some ⟨L.t, 0, none⟩), .map (some L.bc), .map (some L.bh), .slice (some ⟨L.wb, 0, none⟩) n n]
/-- Where a side lies: all of its own blocks are at lo or behind; the memory that it looks at lies before. -/
structure SdC (w : World) (lo p : Nat) (L : Pl) (V : Nat → Value) (S : Sd) : Prop where
  row : w.heap[p]? = some (.cells (rowSd L S.n) 192 (0, 0))
  told : MeC 184 187 w L.FT L.t S.T L.v L.B L.C
  cfg : Cfg S.T
  mc : MpAt w L.bc S.N S.C
  mh : MpAt w L.bh S.N S.H
  wr : w.ownsRow lo 202 1 (.slice (some ⟨L.wb, 0, none⟩) S.n S.n) S.n ((List.range S.n).map V)
  rows : ∀ c, c < S.n → w.ownsRow lo 204 2 (V c) (S.Wt c).length (invL (S.Wt c))
  apart : ∀ c d, c < S.n → d < S.n → c ≠ d → (V c).ownBlock = (V d).ownBlock → (V c).ownBlock = none
  ne : L.bc ≠ L.bh
  lp : lo ≤ p
  lc : lo ≤ L.bc
  lh : lo ≤ L.bh
  lt : ∀ k, L.FT k → lo ≤ k
  ap : ¬ L.FT p ∧ ¬ L.FT L.bc ∧ ¬ L.FT L.bh ∧ ¬ L.FT L.wb
  av : ∀ c, c < S.n → ∀ q, (V c).ownBlock = some q → ¬ L.FT q
  n4 : 0 < S.n ∧ S.n ≤ 4
section
variable {w w' : World} {lo p : Nat} {L : Pl} {V : Nat → Value} {S : Sd}
theorem SdC.pl (h : SdC w lo p L V S) : p < w.heap.size := (Array.getElem?_eq_some_iff.1 h.row).1
theorem SdC.lw (h : SdC w lo p L V S) : lo ≤ L.wb ∧ L.wb < w.heap.size := h.wr.lt L.wb rfl
theorem SdC.kept (h : SdC w lo p L V S) (hs : w.heap.size ≤ w'.heap.size) (hk : ∀ k, lo ≤ k → k < w.heap.size → w'.heap[k]? = w.heap[k]?) : SdC w' lo p L V S :=
  ⟨(hk p h.lp h.pl).trans h.row, h.told.kept hs (fun k hf => hk k (h.lt k hf) (h.told.fl k hf)), h.cfg, h.mc.kept (hk _ h.lc h.mc.lt), h.mh.kept (hk _ h.lh h.mh.lt),
    own_kept h.wr (fun q hq => by obtain ⟨a, b⟩ := h.wr.lt q hq; exact hk q a b), fun c hc => own_kept (h.rows c hc) (fun q hq => by obtain ⟨a, b⟩ := (h.rows c hc).lt q hq; exact hk q a b), h.apart, h.ne, h.lp, h.lc, h.lh, h.lt, h.ap, h.av, h.n4⟩
theorem SdC.past (h : SdC w lo p L V S) (hb : Below w.heap.size w w') : SdC w' lo p L V S := h.kept hb.size fun k _ hk => hb.block k hk
theorem SdC.kp {F : Nat → Prop} (h : SdC w lo p L V S) (hk : Kp F w w') (hF : ∀ k, F k → k < lo) : SdC w' lo p L V S := h.kept hk.size fun k h1 h2 => hk.block k h2 fun hf => by have := hF k hf; omega
theorem MpAt.heap {w : World} {b N : Nat} {F : Int → Nat → Option Nat} (h : MpAt w b N F) : ∃ es c, w.heap[b]? = some (.map es c) := by
  obtain ⟨D, ⟨es, clock, h1, _⟩, _⟩ := h
  exact ⟨es, clock, h1⟩
theorem map_ne_cells {w : World} {b q : Nat} {es : Array MapEntry} {c : Nat} {cs : Array Value} {e : TypeId} {fz : Nat × Nat} (h : w.heap[b]? = some (.map es c)) (h2 : w.heap[q]? = some (.cells cs e fz)) : q ≠ b := fun e0 => by
  subst e0
  rw [h] at h2
  cases h2
theorem own_ne_map {w : World} {b base n size : Nat} {e : TypeId} {v : Value} {xs : List Value} {es : Array MapEntry} {c : Nat} (h : w.heap[b]? = some (.map es c)) (ho : w.ownsRow base e size v n xs) {q : Nat} (hq : v.ownBlock = some q) : q ≠ b := by
  obtain ⟨cur, hc⟩ := own_heap ho hq
  exact map_ne_cells h hc
/-- The cache's map has turned. -/
theorem SdC.setC (h : SdC w lo p L V S) {F : Int → Nat → Option Nat} {N' : Nat} (hN : S.N ≤ N') (hm : MpAt w' L.bc N' F) (hg : w.grownBy w' (some L.bc)) : SdC w' lo p L V { S with C := F, N := N' } := by
  obtain ⟨es, c, hh⟩ := h.mc.heap
  have hk : ∀ k, k < w.heap.size → k ≠ L.bc → w'.heap[k]? = w.heap[k]? := fun k hk hne => hg.block k hk fun e => hne (by injection e)
  exact ⟨(hk p h.pl (map_ne_cells hh h.row)).trans h.row, h.told.kept hg.size (fun k hf => hk k (h.told.fl k hf) (fun e => h.ap.2.1 (e ▸ hf))), h.cfg, hm, (h.mh.kept (hk _ h.mh.lt h.ne.symm)).more hN,
    own_kept h.wr (fun q hq => hk q (h.wr.lt q hq).2 (own_ne_map hh h.wr hq)), fun c hc => own_kept (h.rows c hc) (fun q hq => hk q ((h.rows c hc).lt q hq).2 (own_ne_map hh (h.rows c hc) hq)), h.apart, h.ne, h.lp, h.lc, h.lh, h.lt, h.ap, h.av, h.n4⟩
/-- The map of what is held ahead has turned. -/
theorem SdC.setH (h : SdC w lo p L V S) {F : Int → Nat → Option Nat} {N' : Nat} (hN : S.N ≤ N') (hm : MpAt w' L.bh N' F) (hg : w.grownBy w' (some L.bh)) : SdC w' lo p L V { S with H := F, N := N' } := by
  obtain ⟨es, c, hh⟩ := h.mh.heap
  have hk : ∀ k, k < w.heap.size → k ≠ L.bh → w'.heap[k]? = w.heap[k]? := fun k hk hne => hg.block k hk fun e => hne (by injection e)
  exact ⟨(hk p h.pl (map_ne_cells hh h.row)).trans h.row, h.told.kept hg.size (fun k hf => hk k (h.told.fl k hf) (fun e => h.ap.2.2.1 (e ▸ hf))), h.cfg, (h.mc.kept (hk _ h.mc.lt h.ne)).more hN, hm,
    own_kept h.wr (fun q hq => hk q (h.wr.lt q hq).2 (own_ne_map hh h.wr hq)), fun c hc => own_kept (h.rows c hc) (fun q hq => hk q ((h.rows c hc).lt q hq).2 (own_ne_map hh (h.rows c hc) hq)), h.apart, h.ne, h.lp, h.lc, h.lh, h.lt, h.ap, h.av, h.n4⟩
/-- The memory that is told has turned. -/
theorem SdC.setT (h : SdC w lo p L V S) {T : Me} (hc : Cfg T) (hm : MeC 184 187 w' L.FT L.t T L.v L.B L.C) (hk : Kp L.FT w w') : SdC w' lo p L V { S with T := T } :=
  ⟨(hk.block p h.pl h.ap.1).trans h.row, hm, hc, h.mc.kept (hk.block _ h.mc.lt h.ap.2.1), h.mh.kept (hk.block _ h.mh.lt h.ap.2.2.1), own_kept h.wr (fun q hq => hk.block q (h.wr.lt q hq).2 (by injection hq with hq; subst hq; exact h.ap.2.2.2)),
    fun c hc => own_kept (h.rows c hc) (fun q hq => hk.block q ((h.rows c hc).lt q hq).2 (h.av c hc q hq)), h.apart, h.ne, h.lp, h.lc, h.lh, h.lt, h.ap, h.av, h.n4⟩
/-- The side's own cells. -/
theorem SdC.cells (h : SdC w lo p L V S) : w.cell? ⟨p, 0, none⟩ = some (.pointer (some ⟨L.m, 0, none⟩)) ∧ w.cell? ⟨p, 1, none⟩ = some (.pointer (some ⟨L.t, 0, none⟩)) ∧ w.cell? ⟨p, 2, none⟩ = some (.map (some L.bc)) ∧ w.cell? ⟨p, 3, none⟩ = some (.map (some L.bh)) ∧ w.cell? ⟨p, 4, none⟩ = some (.slice (some ⟨L.wb, 0, none⟩) S.n S.n) :=
  ⟨by rw [cell_of_row w p 0 _ 192 _ h.row]; rfl, by rw [cell_of_row w p 1 _ 192 _ h.row]; rfl, by rw [cell_of_row w p 2 _ 192 _ h.row]; rfl, by rw [cell_of_row w p 3 _ 192 _ h.row]; rfl, by rw [cell_of_row w p 4 _ 192 _ h.row]; rfl⟩
theorem SdC.wcell (h : SdC w lo p L V S) {c : Nat} (hc : c < S.n) : w.cell? ⟨L.wb, c, none⟩ = some (V c) ∧ w.frozen? ⟨L.wb, c, none⟩ = false := by
  obtain ⟨h1, h2⟩ := own_cells h.wr
  refine ⟨h1 c _ ?_, h2 c⟩
  rw [List.getElem?_map, List.getElem?_range hc]
  rfl
end
end Go.Proofs.Ytnbpgoacooddjaa.Mm
