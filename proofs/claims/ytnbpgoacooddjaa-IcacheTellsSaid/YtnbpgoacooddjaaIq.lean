import Derived.Test.YtnbpgoacooddjaaIp
namespace Go.Proofs.Ytnbpgoacooddjaa.Mm
open Go.ChangeShapes Go.WideShapes Go.ChangeAt Go.RowKit Go.Maps Go.Deep
set_option linter.unusedVariables false
/-! ### What is told -/
theorem rd4 (f : Nat → Nat) : rd f 4 = f 0 + 256 * (f 1 + 256 * (f 2 + 256 * (f 3 + 256 * 0))) := by
  rw [rd_shift, rd_shift, rd_shift, rd_shift]
  rfl
theorem wd_tell {M T : Me} {f x : Nat} (h64 : f % 64 = 0) (h4 : x % 4 = 0) : wd (tellY M T f 16) x = if f ≤ x ∧ x < f + 64 then wd M x else wd T x := by
  by_cases hr : 4096 ≤ x ∧ x < 4352 ∧ x % 4 = 0
  · unfold wd
    rw [if_pos hr, if_pos hr, if_pos hr]
    have hy : ∀ i, i < 4 → (tellY M T f 16).y 0 (x - 4096 + i) = if f ≤ x ∧ x < f + 64 then M.y 0 (x - 4096 + i) else T.y 0 (x - 4096 + i) := fun i hi => by
      show (if 0 = 0 ∧ f ≤ 4096 + (x - 4096 + i) ∧ 4096 + (x - 4096 + i) < f + 4 * 16 then M.y 0 (x - 4096 + i) else T.y 0 (x - 4096 + i)) = _
      by_cases hl : f ≤ x ∧ x < f + 64
      · rw [if_pos (by omega), if_pos hl]
      · rw [if_neg (by omega), if_neg hl]
    rw [rd4, rd4, rd4, hy 0 (by omega), hy 1 (by omega), hy 2 (by omega), hy 3 (by omega)]
    split <;> rfl
  · have e : ∀ N : Me, wd N x = (0, 8) := fun N => if_neg hr
    rw [e, e, e]
    split <;> rfl
/-- The two words of the line. -/
def TG (T : Me) (lo hi : Nat) : Prop := wd T 4160 = (lo, 0) ∧ wd T 4164 = (hi, 0)
theorem TG.tell {M T : Me} {lo hi : Nat} (hM : TG M lo hi) (hT : TG T lo hi) (x : Nat) : TG (tellY M T (x - x % 64) 16) lo hi := by
  constructor
  · rw [wd_tell (by omega) (by decide)]
    split
    · exact hM.1
    · exact hT.1
  · rw [wd_tell (by omega) (by decide)]
    split
    · exact hM.2
    · exact hT.2
theorem TG.told {M T : Me} {lo hi : Nat} (hM : TG M lo hi) : TG (tellY M T (4160 - 4160 % 64) 16) lo hi := by
  constructor
  · rw [wd_tell (by omega) (by decide), if_pos (by omega)]
    exact hM.1
  · rw [wd_tell (by omega) (by decide), if_pos (by omega)]
    exact hM.2
/-- What the write lays down. -/
theorem TG.wrote {M : Me} {v : Nat} (hv : v < 18446744073709551616) : TG (M.ld 0 64 (byts v 8)) (v % 4294967296) (v / 4294967296) := by
  have hl := byts_len v 8
  have hb : ∀ j, j < 8 → (byts v 8).getD j 0 = byteOf v j := fun j hj => by
    have : j = 0 ∨ j = 1 ∨ j = 2 ∨ j = 3 ∨ j = 4 ∨ j = 5 ∨ j = 6 ∨ j = 7 := by omega
    rcases this with rfl | rfl | rfl | rfl | rfl | rfl | rfl | rfl <;> rfl
  have hy : ∀ j, j < 8 → (M.ld 0 64 (byts v 8)).y 0 (64 + j) = byteOf v j := fun j hj => by
    rw [ld_y, if_pos ⟨rfl, by omega, by rw [hl]; omega⟩, Nat.add_sub_cancel_left]
    exact hb j hj
  constructor
  · unfold wd
    rw [if_pos (by decide), rd4]
    show (_ + 256 * (_ + 256 * (_ + 256 * (_ + 256 * 0))), 0) = _
    rw [show 4160 - 4096 + 0 = 64 + 0 from rfl, show 4160 - 4096 + 1 = 64 + 1 from rfl, show 4160 - 4096 + 2 = 64 + 2 from rfl, show 4160 - 4096 + 3 = 64 + 3 from rfl, hy 0 (by omega), hy 1 (by omega), hy 2 (by omega), hy 3 (by omega)]
    unfold byteOf
    congr 1
    simp only [show 8 * 0 = 0 from rfl, show 8 * 1 = 8 from rfl, show 8 * 2 = 16 from rfl, show 8 * 3 = 24 from rfl]
    omega
  · unfold wd
    rw [if_pos (by decide), rd4]
    show (_ + 256 * (_ + 256 * (_ + 256 * (_ + 256 * 0))), 0) = _
    rw [show 4164 - 4096 + 0 = 64 + 4 from rfl, show 4164 - 4096 + 1 = 64 + 5 from rfl, show 4164 - 4096 + 2 = 64 + 6 from rfl, show 4164 - 4096 + 3 = 64 + 7 from rfl, hy 4 (by omega), hy 5 (by omega), hy 6 (by omega), hy 7 (by omega)]
    unfold byteOf
    congr 1
    simp only [show 8 * 4 = 32 from rfl, show 8 * 5 = 40 from rfl, show 8 * 6 = 48 from rfl, show 8 * 7 = 56 from rfl]
    omega
theorem or_v {v : Nat} (hv : v < 18446744073709551616) : bits BinOp.or IntKind.u64 ((v % 4294967296 : Nat) : Int) (((v / 4294967296 : Nat) : Int) * 4294967296) = (v : Int) := by
  rw [show ((v / 4294967296 : Nat) : Int) * 4294967296 = ((v / 4294967296 * 4294967296 : Nat) : Int) by rw [Int.natCast_mul]; rfl, u64_or_nat _ _ (by omega) (by omega), Nat.or_comm, show v / 4294967296 * 4294967296 = 2 ^ 32 * (v / 4294967296) by omega, ← Nat.two_pow_add_eq_or_of_lt (show v % 4294967296 < 2 ^ 32 by omega)]
  congr 1
  omega
def TgS (lo hi : Nat) (S : Sd) : Prop := TG S.T lo hi
theorem fill_T (S : Sd) (c : Int) (x : Nat) : (S.fill c x).T = S.T := (fill_H S c x).2.1
theorem TgS.act {M : Me} {lo hi : Nat} {S : Sd} (hM : TG M lo hi) (h : TgS lo hi S) (x : Nx) : TgS lo hi (S.act M x) := by
  have hf : TgS lo hi (S.fill x.core x.ad) := by unfold TgS; rw [fill_T]; exact h
  have ht : TgS lo hi (S.tell M x.ad) := TG.tell hM h x.ad
  unfold Sd.act
  split
  · unfold Sd.fetch
    repeat' split
    all_goals assumption
  · split
    · unfold Sd.ahead
      split
      · exact hf
      · exact h
    · split
      · unfold Sd.refill
        split <;> assumption
      · split
        · exact h
        · split
          · exact ht
          · split
            · exact ht
            · split
              · unfold Sd.inval
                split <;> exact h
              · split
                · unfold Sd.deliver
                  split <;> exact h
                · split
                  · unfold Sd.sync
                    split <;> exact h
                  · exact h
theorem TgS.actN {M : Me} {lo hi : Nat} {S : Sd} (hM : TG M lo hi) (h : TgS lo hi S) (X : Nat → Nx) : ∀ n, TgS lo hi (Mm.actN M X S n)
  | 0 => h
  | n + 1 => TgS.act hM (TgS.actN hM h X n) (X n)
/-! ### What the caches have -/
def CG (lo hi : Nat) (S : Sd) : Prop := ∀ d : Nat, d < S.n → ((S.C d 4160 = none ∨ S.C d 4160 = some lo) ∧ (S.C d 4164 = none ∨ S.C d 4164 = some hi)) ∨ ∃ y ∈ S.Wt d, y.2 = 4160
theorem CG.same {lo hi : Nat} {S S' : Sd} (h : CG lo hi S) (hn : S'.n = S.n) (hC : S'.C = S.C) (hw : S'.Wt = S.Wt) : CG lo hi S' := fun d hd => by
  rw [hC, hw]
  exact h d (by omega)
theorem CG.fill {lo hi : Nat} {S : Sd} (hT : TgS lo hi S) (h : CG lo hi S) (c : Int) (x : Nat) : CG lo hi (S.fill c x) := by
  unfold Sd.fill
  split
  · exact h
  · intro d hd
    have hd : d < S.n := hd
    rcases h d hd with ⟨h1, h2⟩ | h3
    · refine .inl ⟨?_, ?_⟩
      · show (if (d : Int) = c ∧ 4160 = x then some (wd S.T x).1 else S.C d 4160) = none ∨ (if (d : Int) = c ∧ 4160 = x then some (wd S.T x).1 else S.C d 4160) = some lo
        by_cases e : (d : Int) = c ∧ 4160 = x
        · rw [if_pos e, ← e.2, hT.1]; exact .inr rfl
        · rw [if_neg e]; exact h1
      · show (if (d : Int) = c ∧ 4164 = x then some (wd S.T x).1 else S.C d 4164) = none ∨ (if (d : Int) = c ∧ 4164 = x then some (wd S.T x).1 else S.C d 4164) = some hi
        by_cases e : (d : Int) = c ∧ 4164 = x
        · rw [if_pos e, ← e.2, hT.2]; exact .inr rfl
        · rw [if_neg e]; exact h2
    · exact .inr h3
theorem mem_erase_of {α : Type} {l : List α} {y : α} {k : Nat} (hy : y ∈ l) (hk : l[k]? ≠ some y) : y ∈ l.eraseIdx k := by
  rw [List.mem_eraseIdx_iff_getElem?]
  obtain ⟨i, hi⟩ := List.mem_iff_getElem?.1 hy
  exact ⟨i, fun e => hk (e ▸ hi), hi⟩
theorem CG.deliver {lo hi : Nat} {S : Sd} (h : CG lo hi S) (c n : Int) (hc : c < 0 → S.waitN c = 0) : CG lo hi (S.deliver c n) := by
  unfold Sd.deliver
  split
  · exact h
  · rename_i hw
    intro d hd
    have hd : d < S.n := hd
    have hc0 : 0 ≤ c := by
      rcases Int.lt_or_le c 0 with h1 | h1
      · exact absurd (hc h1) hw
      · exact h1
    generalize hk : S.atK c n = k
    generalize hy : (S.Wt c.toNat).getD k (0, 0) = y
    by_cases e : (d : Int) = c
    · have et : d = c.toNat := by omega
      rcases h d hd with ⟨h1, h2⟩ | ⟨z, hz, hz2⟩
      · refine .inl ⟨?_, ?_⟩
        · show (if (d : Int) = c ∧ y.2 - y.2 % 64 ≤ 4160 ∧ 4160 < y.2 - y.2 % 64 + 4 * 16 ∧ (4160 - (y.2 - y.2 % 64)) % 4 = 0 then none else S.C d 4160) = none ∨ (if (d : Int) = c ∧ y.2 - y.2 % 64 ≤ 4160 ∧ 4160 < y.2 - y.2 % 64 + 4 * 16 ∧ (4160 - (y.2 - y.2 % 64)) % 4 = 0 then none else S.C d 4160) = some lo
          split
          · exact .inl rfl
          · exact h1
        · show (if (d : Int) = c ∧ y.2 - y.2 % 64 ≤ 4164 ∧ 4164 < y.2 - y.2 % 64 + 4 * 16 ∧ (4164 - (y.2 - y.2 % 64)) % 4 = 0 then none else S.C d 4164) = none ∨ (if (d : Int) = c ∧ y.2 - y.2 % 64 ≤ 4164 ∧ 4164 < y.2 - y.2 % 64 + 4 * 16 ∧ (4164 - (y.2 - y.2 % 64)) % 4 = 0 then none else S.C d 4164) = some hi
          split
          · exact .inl rfl
          · exact h2
      · by_cases hyz : y.2 = 4160
        · refine .inl ⟨.inl ?_, .inl ?_⟩
          · show (if (d : Int) = c ∧ y.2 - y.2 % 64 ≤ 4160 ∧ 4160 < y.2 - y.2 % 64 + 4 * 16 ∧ (4160 - (y.2 - y.2 % 64)) % 4 = 0 then none else S.C d 4160) = none
            rw [if_pos ⟨e, by omega⟩]
          · show (if (d : Int) = c ∧ y.2 - y.2 % 64 ≤ 4164 ∧ 4164 < y.2 - y.2 % 64 + 4 * 16 ∧ (4164 - (y.2 - y.2 % 64)) % 4 = 0 then none else S.C d 4164) = none
            rw [if_pos ⟨e, by omega⟩]
        · refine .inr ⟨z, ?_, hz2⟩
          show z ∈ (if d = c.toNat then (S.Wt c.toNat).eraseIdx k else S.Wt d)
          rw [if_pos et]
          refine mem_erase_of (et ▸ hz) fun h3 => hyz ?_
          rw [← hy, List.getD_eq_getElem?_getD, h3]
          exact hz2
    · have et : d ≠ c.toNat := by omega
      rcases h d hd with ⟨h1, h2⟩ | ⟨z, hz, hz2⟩
      · refine .inl ⟨?_, ?_⟩
        · show (if (d : Int) = c ∧ _ then none else S.C d 4160) = none ∨ (if (d : Int) = c ∧ _ then none else S.C d 4160) = some lo
          rw [if_neg (fun h => e h.1)]
          exact h1
        · show (if (d : Int) = c ∧ _ then none else S.C d 4164) = none ∨ (if (d : Int) = c ∧ _ then none else S.C d 4164) = some hi
          rw [if_neg (fun h => e h.1)]
          exact h2
      · refine .inr ⟨z, ?_, hz2⟩
        show z ∈ (if d = c.toNat then (S.Wt c.toNat).eraseIdx k else S.Wt d)
        rw [if_neg et]
        exact hz
theorem waitN_neg (S : Sd) (c : Int) (h : c < 0) : S.waitN c = 0 := if_neg fun hc => by have := hc.1; omega
theorem CG.act {M : Me} {lo hi : Nat} {S : Sd} (hT : TgS lo hi S) (h : CG lo hi S) (x : Nx) : CG lo hi (S.act M x) := by
  have hf := h.fill hT x.core x.ad
  unfold Sd.act
  split
  · unfold Sd.fetch
    repeat' split
    all_goals assumption
  · split
    · unfold Sd.ahead
      split
      · exact hf.same rfl rfl rfl
      · exact h
    · split
      · unfold Sd.refill
        split <;> assumption
      · split
        · intro d hd
          have hd : d < S.n := hd
          rcases h d hd with ⟨h1, h2⟩ | h3
          · refine .inl ⟨?_, ?_⟩
            · show (if (d : Int) = x.core ∧ 4160 = x.ad then none else S.C d 4160) = none ∨ (if (d : Int) = x.core ∧ 4160 = x.ad then none else S.C d 4160) = some lo
              split
              · exact .inl rfl
              · exact h1
            · show (if (d : Int) = x.core ∧ 4164 = x.ad then none else S.C d 4164) = none ∨ (if (d : Int) = x.core ∧ 4164 = x.ad then none else S.C d 4164) = some hi
              split
              · exact .inl rfl
              · exact h2
          · exact .inr h3
        · split
          · exact h.same rfl rfl rfl
          · split
            · exact h.same rfl rfl rfl
            · split
              · unfold Sd.inval
                split
                · intro d hd
                  have hd : d < S.n := hd
                  rcases h d hd with h1 | ⟨y, hy, hy2⟩
                  · exact .inl h1
                  · refine .inr ⟨y, ?_, hy2⟩
                    show y ∈ (if d < S.n then S.Wt d ++ [(x.core, x.ad - x.ad % 64)] else S.Wt d)
                    rw [if_pos hd]
                    exact List.mem_append_left _ hy
                · exact h
              · split
                · exact h.deliver x.core x.N (waitN_neg S x.core)
                · split
                  · unfold Sd.sync
                    split
                    · exact h.same rfl rfl rfl
                    · exact h
                  · exact h
theorem CG.actN {M : Me} {lo hi : Nat} {S : Sd} (hM : TG M lo hi) (hT : TgS lo hi S) (h : CG lo hi S) (X : Nat → Nx) : ∀ n, CG lo hi (Mm.actN M X S n)
  | 0 => h
  | n + 1 => CG.act (TgS.actN hM hT X n) (CG.actN hM hT h X n) (X n)
/-- The invalidation of the line. -/
theorem CG.inval {lo hi : Nat} {S : Sd} (c : Int) (hc : isC S c) : CG lo hi (S.inval c 4168) := by
  unfold Sd.inval
  rw [if_pos hc]
  intro d hd
  have hd : d < S.n := hd
  refine .inr ⟨(c, 4160), ?_, rfl⟩
  show (c, 4160) ∈ (if d < S.n then S.Wt d ++ [(c, 4168 - 4168 % 64)] else S.Wt d)
  rw [if_pos hd]
  exact List.mem_append_right _ (by simp)
theorem TgS.deliver {lo hi : Nat} {S : Sd} (h : TgS lo hi S) (c n : Int) : TgS lo hi (S.deliver c n) := by
  unfold Sd.deliver
  split <;> exact h
theorem Bd.deliver {K : Nat} {S : Sd} (h : Bd K S) (c n : Int) : Bd K (S.deliver c n) := by
  unfold Sd.deliver
  split
  · exact h
  · refine ⟨h.n, fun d hd => ?_, fun d hd => ?_⟩
    · have hd : d < S.n := hd
      show (if d = c.toNat then (S.Wt c.toNat).eraseIdx (S.atK c n) else S.Wt d).length ≤ K
      split
      · rename_i e
        subst e
        have h1 := h.l _ hd
        have h2 := List.length_eraseIdx_le (S.Wt c.toNat) (S.atK c n)
        omega
      · exact h.l d hd
    · have hd : d < S.n := hd
      show ∀ y ∈ (if d = c.toNat then (S.Wt c.toNat).eraseIdx (S.atK c n) else S.Wt d), _
      split
      · rename_i e
        subst e
        intro y hy
        exact h.y _ hd y (List.mem_of_mem_eraseIdx hy)
      · exact h.y d hd
theorem deliver_n (S : Sd) (c n : Int) : (S.deliver c n).n = S.n := by
  show SameN S (S.deliver c n)
  unfold Sd.deliver
  split <;> rfl
/-- One of what waits is gone. -/
theorem deliver_wt {S : Sd} {c : Nat} (n : Int) (hc : c < S.n) (h0 : 0 < (S.Wt c).length) : ((S.deliver c n).Wt c).length = (S.Wt c).length - 1 ∧ ∀ d, d ≠ c → (S.deliver c n).Wt d = S.Wt d := by
  have hw : S.waitN (c : Int) = (S.Wt c).length := if_pos ⟨by omega, by omega⟩
  have hk : S.atK (c : Int) n < (S.Wt c).length := by
    have h2 := Int.emod_lt_of_pos (max n 0) (b := ((S.Wt c).length : Int)) (by omega)
    have h1 := Int.emod_nonneg (max n 0) (b := ((S.Wt c).length : Int)) (by omega)
    have h3 : S.atK (c : Int) n = ((max n 0) % ((S.Wt c).length : Int)).toNat := rfl
    omega
  unfold Sd.deliver
  rw [if_neg (by omega)]
  constructor
  · show (if c = c then (S.Wt c).eraseIdx (S.atK (c : Int) n) else S.Wt c).length = _
    rw [if_pos rfl, List.length_eraseIdx_of_lt hk]
  · intro d hd
    show (if d = c then _ else S.Wt d) = S.Wt d
    rw [if_neg hd]
end Go.Proofs.Ytnbpgoacooddjaa.Mm
