import Derived.Test.YtnbpgoacooddjaaFIns0
namespace Go.Proofs.Ytnbpgoacooddjaa.Fr
open Go.RowKit
set_option linter.unusedVariables false
theorem splice_shift {α : Type} (L xs : List α) (r x : α) (k n : Nat) (hk : k ≤ n) (hx : xs.length = n) (h : L.take (n + 1) = xs ++ [x]) :
    ((splice L (k + 1) (xs.drop k)).set k r).take (n + 1) = xs.take k ++ r :: xs.drop k := by
  have hL : L = xs ++ [x] ++ L.drop (n + 1) := by rw [← h]; exact (List.take_append_drop _ _).symm
  generalize L.drop (n + 1) = D at hL
  obtain ⟨A, hA⟩ : ∃ A, A = xs.take k := ⟨_, rfl⟩
  obtain ⟨C, hC⟩ : ∃ C, C = xs.drop k := ⟨_, rfl⟩
  have hxs : xs = A ++ C := by rw [hA, hC]; exact (List.take_append_drop _ _).symm
  have hAl : A.length = k := by rw [hA]; simp; omega
  have hCl : C.length = n - k := by rw [hC]; simp; omega
  rw [← hA, ← hC]
  subst hxs
  clear hA hC h
  subst hL
  obtain ⟨y, C', hy, hyl⟩ : ∃ y C', C ++ [x] = y :: C' ∧ C'.length = C.length := by
    rcases C with _ | ⟨c, C⟩
    · exact ⟨x, [], rfl, rfl⟩
    · exact ⟨c, C ++ [x], rfl, by simp⟩
  have e1 : A ++ C ++ [x] ++ D = A ++ [y] ++ (C' ++ D) := by rw [List.append_assoc A C [x], hy]; simp
  have e2 : (A ++ C ++ [x] ++ D).take (k + 1) = A ++ [y] := by
    rw [e1]; exact List.take_left' (by simp [hAl])
  have e3 : (A ++ C ++ [x] ++ D).drop (k + 1 + C.length) = D := by
    refine List.drop_left' (by simp [hAl]; omega)
  unfold splice
  rw [e2, e3]
  have e4 : (A ++ [y] ++ (C ++ D)).set k r = A ++ [r] ++ (C ++ D) := by
    rw [← hAl]
    simp
  rw [e4]
  have e5 : A ++ [r] ++ (C ++ D) = (A ++ r :: C) ++ D := by simp
  rw [e5]
  exact List.take_left' (by simp [hAl]; omega)
theorem size3 : (Try.prog.info? 3).map (·.size) = some 1 := by kernel_rfl
/-- The row behind append, copy and the store. -/
theorem row_ins {w4 : World} {B g1 n cap1 k : Nat} {L1 : List Value} {xs : List Int} {r : Int} (hb : B ≤ g1) (hk : k ≤ n) (hx : xs.length = n) (hl : L1.length = cap1) (hn : n + 1 ≤ cap1) (hm : cap1 ≤ maxLen) (ht : L1.take ((n + 1) * 1) = ivs xs ++ [.int .i64 r])
    (hg : w4.heap[g1]? = some (.cells (splice L1 (k + 1) ((ivs xs).drop k)).toArray 3 (0, 0))) :
    (w4.setCell ⟨g1, k, none⟩ (.int .i64 r)).ownsRow B 3 1 (.slice (some ⟨g1, 0, none⟩) (n + 1) cap1) (n + 1) (ivs (xs.take k ++ r :: xs.drop k)) := by
  refine ⟨by simp [ivs]; omega, .inr ⟨g1, cap1, ((splice L1 (k + 1) ((ivs xs).drop k)).set k (.int .i64 r)).toArray, rfl, hb, ?_, hn, hm, ?_, ?_⟩⟩
  · simp [World.setCell, Array.getElem?_modify, hg]
  · have := length_splice L1 (k + 1) ((ivs xs).drop k) (by simp [ivs]; omega)
    simp [this, hl]
  · have := splice_shift L1 (ivs xs) (.int .i64 r) (.int .i64 r) k n hk (by simp [ivs, hx]) (by simpa using ht)
    simpa [ivs] using this
theorem row_src {w1 : World} {g1 n k : Nat} {L1 : List Value} {xs : List Int} {r : Int} (hk : k ≤ n) (hx : xs.length = n) (ht : L1.take ((n + 1) * 1) = ivs xs ++ [.int .i64 r])
    (hg : w1.heap[g1]? = some (.cells L1.toArray 3 (0, 0))) : ∀ j v, ((ivs xs).drop k)[j]? = some v → w1.cell? ((⟨g1, k, none⟩ : Addr).add j) = some v := by
  intro j v hv
  have ha : (⟨g1, k, none⟩ : Addr).add j = ⟨g1, k + j, none⟩ := by unfold Addr.add; split <;> simp_all
  rw [ha, cell_of_row w1 g1 (k + j) L1.toArray 3 _ hg]
  rw [List.getElem?_drop] at hv
  have hlt := (List.getElem?_eq_some_iff.1 hv).1
  rw [ivs_length, hx] at hlt
  have h2 : (L1.take ((n + 1) * 1))[k + j]? = some v := by rw [ht, List.getElem?_append_left (by rw [ivs_length]; omega)]; exact hv
  rw [List.getElem?_take, if_pos (by omega)] at h2
  simpa using h2
theorem step_copy_grow {P : Program} {ops : Array Oper} {o : Oper} {a : Act} {w : World} {K : Act → World → Prop} {Q : Exit → Act → World → Prop} {E : Prop} (hgd : o.guard = none) (d s : Operand) (dT sT : TypeId)
    (ho : o.op = .call { callee := .builtin .copy, args := #[d, s], argTypes := #[dT, sT] }) (elem : TypeId) (hu : P.underlying dT = some (.slice elem)) (hsz : (P.info? elem).map (·.size) = some 1)
    (dp sp : Option Addr) (dLen dCap sLen sCap : Nat) (hd : a.eval d = .slice dp dLen dCap) (hs : a.eval s = .slice sp sLen sCap)
    (g off : Nat) (cur : List Value) (t : TypeId) (hg : w.heap[g]? = some (.cells cur.toArray t (0, 0))) (cs : List Value) (hn : cs.length = Nat.min sLen dLen)
    (hpos : 0 < cs.length → dp = some ⟨g, off, none⟩ ∧ ∃ ad, sp = some ad ∧ ∀ j v, cs[j]? = some v → w.cell? (ad.add j) = some v)
    (hfit : off + cs.length ≤ cur.length) (h1 : ∀ v ∈ cs, v.oneCell' = true)
    (h : ∀ w', Hid (w'.heap[g]? = some (.cells (splice cur off cs).toArray t (0, 0))) → w.grownBy w' (some g) → K (a.put o.dst (goInt cs.length)) w') :
    if Region.wanted o (yielded ops a.tmps) = true then Oper.wp P o a w K Q else E := by
  have hw : Region.wanted o (yielded ops a.tmps) = true := by simp [Region.wanted, hgd]
  rw [if_pos hw]
  rcases Nat.eq_zero_or_pos cs.length with h0 | h0
  · have e0 : cs = [] := List.eq_nil_of_length_eq_zero h0
    subst e0
    have hrun := run_copy_none (P := P) w dT sT o.type elem dp sp dLen dCap sLen sCap hu hsz (by simpa using hn.symm)
    have hk := h w (show _ = _ by simpa [splice] using hg) ⟨rfl, rfl, rfl, Nat.le_refl _, fun _ _ _ => rfl⟩
    unfold Oper.wp
    simp [execOp, ho, resolve, invoke, builtin, hd, hs, hrun, Result.andThen]
    exact hk
  · obtain ⟨e1, ad, e2, hsrc⟩ := hpos h0
    subst e1 e2
    have hrun := run_copy_row (P := P) w dT sT o.type elem g off dLen dCap ad sLen sCap cur.toArray t cs hu hsz hg hn hsrc (by simpa using hfit) h1
    have hk := h (w.setRow g (cur.take off ++ (cs ++ cur.drop (off + cs.length))).toArray) (show _ = _ by simpa [splice] using setRow_heap w g _ _ t _ hg) ⟨rfl, rfl, rfl, by simp [World.setRow], fun k _ hk => setRow_other w g k _ (fun e => hk (by rw [e]))⟩
    unfold Oper.wp
    simp [execOp, ho, resolve, invoke, builtin, hd, hs, hrun, Result.andThen]
    exact hk
theorem grown3 {w w1 w4 : World} {g1 k : Nat} {v : Value} (own : Option Nat) (h1 : w.grownBy w1 own) (hq : some g1 = own ∨ w.heap.size ≤ g1) (h4 : w1.grownBy w4 (some g1)) : w.grownBy (w4.setCell ⟨g1, k, none⟩ v) own := by
  refine ⟨h4.os.trans h1.os, h4.tape.trans h1.tape, h4.output.trans h1.output, ?_, fun j hj hne => ?_⟩
  · exact Nat.le_trans (Nat.le_trans h1.size h4.size) (by simp [World.setCell])
  · have hj1 : j ≠ g1 := by
      rintro rfl
      rcases hq with e | e
      · exact hne e
      · omega
    rw [Below.heap_setCell _ _ _ j (by simpa using hj1), h4.block j (by have := h1.size; omega) (by simpa using hj1), h1.block j hj hne]
end Go.Proofs.Ytnbpgoacooddjaa.Fr
